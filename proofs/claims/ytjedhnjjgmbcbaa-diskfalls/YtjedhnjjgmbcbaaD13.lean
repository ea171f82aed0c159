/-
  DiskFalls.
-/
import Derived.Test.YtjedhnjjgmbcbaaDF
namespace Go.Proofs.Ytjedhnjjgmbcbaa
open Go.RowKit

theorem run_remb {ρ : Operand → Value} {x y : Operand} {w : World} {dst : Option Tmp} {T T2 ty : TypeId} {pos : String} {aft : Array Edge} {gd : Option (Nat × Bool)} {P : Program} {a : Nat} (hx : ρ x = iN .u8 a) (hy : ρ y = iN .u8 100) : (execOp ρ ⟨dst, .binOp .rem T x y T2, ty, pos, aft, gd⟩).run P w = .ok (.value (iN .u8 (a % 100))) w := run_rem (k := .u8) (a := a) (b := 100) hx hy (by decide)
theorem faA_y {w0 : World} {M : ML} {d : Dk} {L : BL} {a k : Nat} {w : World} (hD : DH w0 M d (faD a k) L w) (h1 : 1 ≤ a) (ha : a ≤ 100) (hk : k + 1 < a) :
    Calls Try.prog 10 #[pt d.q, .string { data := #[97] }, .string { data := #[120] }] w fun e w' => e = .returned (iN .i64 0) ∧ DH w0 M d (faD a (k + 1)) L w' := by
  have h := Append_any hD { data := #[97] } { data := #[120] } (fa_DB h1 ha) (by decide) (by decide)
  rw [fa_step_y hk ha] at h
  exact h
theorem faA_n {w0 : World} {M : ML} {d : Dk} {L : BL} {a k : Nat} {w : World} (hD : DH w0 M d (faD a k) L w) (h1 : 1 ≤ a) (ha : a ≤ 100) (hk : ¬ k + 1 < a) :
    Calls Try.prog 10 #[pt d.q, .string { data := #[97] }, .string { data := #[120] }] w fun e w' => e = .returned (iN .i64 16) ∧ DH w0 M d (faD a (k + 1)) L w' := by
  have h := Append_any hD { data := #[97] } { data := #[120] } (fa_DB h1 ha) (by decide) (by decide)
  rw [fa_step_n hk] at h
  exact h
theorem fa_arm {a : Nat} (h1 : 1 ≤ a) : armD ⟨[], 65536, 0, false, []⟩ (a : Int) = (faD a 0, 0) := by
  rw [armD, if_neg (by decide), if_neg (by omega), faD, if_pos (by omega)]
  simp [faX]
set_option linter.unusedVariables false in
set_option maxRecDepth 100000 in
set_option maxHeartbeats 2000000 in
theorem falls_any (n : Nat) (hn : n < 256) (w : World) :
    Calls Try.prog 5 #[iN .u8 n] w fun e w' => e = .returned (.bool true) ∧ Below w.heap.size w w' := by
  have H0 := HA.start w
  go_enter Try.func5, Try.ntmps5
  refine wp_seq ?_
  refine wl_region ?_
  refine wl_val (.bool false) (by kernel_rfl) (by kernel_rfl) ?_
  refine wl_nil ?_
  refine then_at (F := ⟨(iN .u8 n :: un :: .bool false :: List.replicate 92 un).toArray, []⟩) (by kernel_rfl) ?_
  refine wp_seq ?_
  refine wl_region ?_
  refine wl_callx (by kernel_rfl) enter7 #[iN .i64 65536] (by kernel_rfl) (New_any 65536 H0) ?_
  rintro _ w1 ⟨d, rfl, hD0⟩
  refine ⟨_, rfl, ?_⟩
  have hD1 : DH _ _ d ⟨[], 65536, 0, false, []⟩ _ _ := hD0
  have hD1 : DH _ _ d (⟨[], 65536, 0, false, []⟩) _ _ := hD1
  obtain ⟨z2, X3, hcl4, hbe5, h6⟩ := DH.front hD1
  have h7 : HA z2 X3 w1 := h6
  refine wl_val (.pointer (some ⟨d.q, 0, none⟩)) (by kernel_rfl) (by kernel_rfl) ?_
  refine wl_nil ?_
  refine then_at (F := ⟨(iN .u8 n :: un :: .bool false :: pt d.q :: un :: un :: un :: un :: un :: pt d.q :: List.replicate 85 un).toArray, []⟩) (by kernel_rfl) ?_
  refine wp_seq ?_
  refine wl_region ?_
  refine wl_val (iN .u8 n) (by kernel_rfl) (by kernel_rfl) ?_
  refine wl_val (iN .u8 (n % 100)) (by kernel_rfl) (run_remb (a := n) (by kernel_rfl) (by kernel_rfl)) ?_
  refine wl_val (iN .i64 (n % 100)) (by kernel_rfl) (run_conv .i64 Try.underlying5 Try.underlying3 (by kernel_rfl) (by first | omega | (simp only [top]; omega))) ?_
  refine wl_val (iN .i64 (1 + (n % 100))) (by kernel_rfl) (run_add (k := .i64) (a := 1) (b := n % 100) (by kernel_rfl) (by kernel_rfl) (by first | omega | (simp only [top]; omega))) ?_
  refine wl_val (iN .i64 (1 + (n % 100))) (by kernel_rfl) (by kernel_rfl) ?_
  refine wl_nil ?_
  refine then_at (F := ⟨(iN .u8 n :: un :: .bool false :: pt d.q :: iN .i64 (1 + (n % 100)) :: un :: un :: un :: un :: pt d.q :: iN .u8 n :: iN .u8 (n % 100) :: iN .i64 (n % 100) :: iN .i64 (1 + (n % 100)) :: List.replicate 81 un).toArray, []⟩) (by kernel_rfl) ?_
  refine wp_seq ?_
  refine wp_seq ?_
  refine wl_region ?_
  refine wl_val (.pointer (some ⟨d.q, 0, none⟩)) (by kernel_rfl) (by kernel_rfl) ?_
  refine wl_val (.bool false) (by kernel_rfl) (by kernel_rfl) ?_
  refine wl_val (.bool false) (by kernel_rfl) (by kernel_rfl) ?_
  refine wl_val (.pointer (some ⟨d.q, 0, none⟩)) (by kernel_rfl) (by kernel_rfl) ?_
  refine wl_val (iN .i64 (1 + (n % 100))) (by kernel_rfl) (by kernel_rfl) ?_
  refine wl_callx (by kernel_rfl) enter18 #[.pointer (some ⟨d.q, 0, none⟩), iN .i64 (1 + (n % 100))] (by kernel_rfl) (by have h := Arm_any (hcl4 [] _ h7) (((1 + n % 100) : Nat) : Int); rw [fa_arm (by omega)] at h; exact h) ?_
  rintro _ w8 ⟨rfl, hDa⟩
  refine ⟨_, rfl, ?_⟩
  have hDa : DH _ _ d (faD (1 + n % 100) 0) _ _ := hDa
  obtain ⟨z9, X10, hcl11, hbe12, h13⟩ := DH.front hDa
  have h14 : HA z9 X10 w8 := h13
  refine wl_val (.bool false) (by kernel_rfl) (run_nei (k := .i64) (a := 0) (b := 0) (by kernel_rfl) (by kernel_rfl) false (by decide)) ?_
  refine wl_val (.bool false) (by kernel_rfl) (by kernel_rfl) ?_
  refine wl_nil ?_
  refine then_at (F := ⟨(iN .u8 n :: un :: .bool false :: pt d.q :: iN .i64 (1 + (n % 100)) :: un :: un :: un :: un :: pt d.q :: iN .u8 n :: iN .u8 (n % 100) :: iN .i64 (n % 100) :: iN .i64 (1 + (n % 100)) :: pt d.q :: .bool false :: .bool false :: pt d.q :: iN .i64 (1 + (n % 100)) :: iN .i64 0 :: .bool false :: .bool false :: List.replicate 73 un).toArray, []⟩) (by kernel_rfl) ?_
  refine wp_cond_false (by kernel_rfl) ?_
  refine wp_skip ?_
  refine then_at (F := ⟨(iN .u8 n :: un :: .bool false :: pt d.q :: iN .i64 (1 + (n % 100)) :: un :: un :: un :: un :: pt d.q :: iN .u8 n :: iN .u8 (n % 100) :: iN .i64 (n % 100) :: iN .i64 (1 + (n % 100)) :: pt d.q :: .bool false :: .bool false :: pt d.q :: iN .i64 (1 + (n % 100)) :: iN .i64 0 :: .bool false :: .bool false :: List.replicate 73 un).toArray, []⟩) (by kernel_rfl) ?_
  refine wp_seq ?_
  refine wp_seq ?_
  refine wl_region ?_
  refine wl_val (iN .i64 1) (by kernel_rfl) (by kernel_rfl) ?_
  refine wl_nil ?_
  refine then_at (F := ⟨(iN .u8 n :: un :: .bool false :: pt d.q :: iN .i64 (1 + (n % 100)) :: iN .i64 1 :: un :: un :: un :: pt d.q :: iN .u8 n :: iN .u8 (n % 100) :: iN .i64 (n % 100) :: iN .i64 (1 + (n % 100)) :: pt d.q :: .bool false :: .bool false :: pt d.q :: iN .i64 (1 + (n % 100)) :: iN .i64 0 :: .bool false :: .bool false :: List.replicate 73 un).toArray, []⟩) (by kernel_rfl) ?_
  refine wp_block ?_
  refine wp_count (fun k A w' => ∃ u15 : Nat → Value, A = ⟨(iN .u8 n :: un :: u15 2 :: pt d.q :: iN .i64 (1 + (n % 100)) :: iN .i64 (k + 1) :: u15 6 :: un :: un :: pt d.q :: iN .u8 n :: iN .u8 (n % 100) :: iN .i64 (n % 100) :: iN .i64 (1 + (n % 100)) :: pt d.q :: .bool false :: .bool false :: pt d.q :: iN .i64 (1 + (n % 100)) :: iN .i64 0 :: .bool false :: .bool false :: u15 22 :: u15 23 :: u15 24 :: u15 25 :: u15 26 :: u15 27 :: u15 28 :: u15 29 :: u15 30 :: u15 31 :: u15 32 :: u15 33 :: u15 34 :: u15 35 :: u15 36 :: u15 37 :: u15 38 :: u15 39 :: u15 40 :: u15 41 :: u15 42 :: u15 43 :: u15 44 :: u15 45 :: u15 46 :: u15 47 :: u15 48 :: u15 49 :: u15 50 :: u15 51 :: List.replicate 43 un).toArray, []⟩ ∧ DH w [] d (faD (1 + n % 100) k) [] w') ((1 + n % 100) + 3) ?_ ?_ ?_
  · exact ⟨fun ii => (([(2, .bool false), (6, undef), (22, undef), (23, undef), (24, undef), (25, undef), (26, undef), (27, undef), (28, undef), (29, undef), (30, undef), (31, undef), (32, undef), (33, undef), (34, undef), (35, undef), (36, undef), (37, undef), (38, undef), (39, undef), (40, undef), (41, undef), (42, undef), (43, undef), (44, undef), (45, undef), (46, undef), (47, undef), (48, undef), (49, undef), (50, undef), (51, undef)] : List (Nat × Value)).find? (·.1 == ii)).elim undef (·.2), by kernel_rfl, hDa⟩
  · rintro k hk _ w16 ⟨u15, rfl, hLp⟩
    obtain ⟨z17, X18, hcl19, hbe20, h21⟩ := DH.front hLp
    have h22 : HA z17 X18 w16 := h21
    refine wp_seq ?_
    refine wp_seq ?_
    refine wl_region ?_
    refine wl_val (iN .i64 (k + 1)) (by kernel_rfl) (by kernel_rfl) ?_
    refine wl_val (iN .i64 (1 + (n % 100))) (by kernel_rfl) (by kernel_rfl) ?_
    refine wl_val (iN .i64 ((1 + (n % 100)) + 3)) (by kernel_rfl) (run_add (k := .i64) (a := 1 + (n % 100)) (b := 3) (by kernel_rfl) (by kernel_rfl) (by first | omega | (simp only [top]; omega))) ?_
    refine wl_val (.bool true) (by kernel_rfl) (run_leq (k := .i64) (a := k + 1) (b := (1 + (n % 100)) + 3) (by kernel_rfl) (by kernel_rfl) true (decide_eq_true (by omega))) ?_
    refine wl_nil ?_
    refine then_at (F := ⟨(iN .u8 n :: un :: u15 2 :: pt d.q :: iN .i64 (1 + (n % 100)) :: iN .i64 (k + 1) :: u15 6 :: un :: un :: pt d.q :: iN .u8 n :: iN .u8 (n % 100) :: iN .i64 (n % 100) :: iN .i64 (1 + (n % 100)) :: pt d.q :: .bool false :: .bool false :: pt d.q :: iN .i64 (1 + (n % 100)) :: iN .i64 0 :: .bool false :: .bool false :: iN .i64 (k + 1) :: iN .i64 (1 + (n % 100)) :: iN .i64 ((1 + (n % 100)) + 3) :: .bool true :: u15 26 :: u15 27 :: u15 28 :: u15 29 :: u15 30 :: u15 31 :: u15 32 :: u15 33 :: u15 34 :: u15 35 :: u15 36 :: u15 37 :: u15 38 :: u15 39 :: u15 40 :: u15 41 :: u15 42 :: u15 43 :: u15 44 :: u15 45 :: u15 46 :: u15 47 :: u15 48 :: u15 49 :: u15 50 :: u15 51 :: List.replicate 43 un).toArray, []⟩) (by kernel_rfl) ?_
    refine wp_cond_true (by kernel_rfl) ?_
    refine wp_skip ?_
    refine then_at (F := ⟨(iN .u8 n :: un :: u15 2 :: pt d.q :: iN .i64 (1 + (n % 100)) :: iN .i64 (k + 1) :: u15 6 :: un :: un :: pt d.q :: iN .u8 n :: iN .u8 (n % 100) :: iN .i64 (n % 100) :: iN .i64 (1 + (n % 100)) :: pt d.q :: .bool false :: .bool false :: pt d.q :: iN .i64 (1 + (n % 100)) :: iN .i64 0 :: .bool false :: .bool false :: iN .i64 (k + 1) :: iN .i64 (1 + (n % 100)) :: iN .i64 ((1 + (n % 100)) + 3) :: .bool true :: u15 26 :: u15 27 :: u15 28 :: u15 29 :: u15 30 :: u15 31 :: u15 32 :: u15 33 :: u15 34 :: u15 35 :: u15 36 :: u15 37 :: u15 38 :: u15 39 :: u15 40 :: u15 41 :: u15 42 :: u15 43 :: u15 44 :: u15 45 :: u15 46 :: u15 47 :: u15 48 :: u15 49 :: u15 50 :: u15 51 :: List.replicate 43 un).toArray, []⟩) (by kernel_rfl) ?_
    refine wp_seq ?_
    refine wp_block ?_
    refine wp_seq ?_
    by_cases hlt : k + 1 < (1 + n % 100)
    · refine wl_region ?_
      refine wl_val (.pointer (some ⟨d.q, 0, none⟩)) (by kernel_rfl) (by kernel_rfl) ?_
      refine wl_callx (by kernel_rfl) enter10 #[.pointer (some ⟨d.q, 0, none⟩), .string ({ data := #[97] }), .string ({ data := #[120] })] (by kernel_rfl) (faA_y (hcl19 [] _ h22) (by omega) (by omega) hlt) ?_
      rintro _ w24 ⟨rfl, hD23⟩
      refine ⟨_, rfl, ?_⟩
      have hD23 : DH _ _ d (faD (1 + n % 100) (k + 1)) _ _ := hD23
      obtain ⟨z25, X26, hcl27, hbe28, h29⟩ := DH.front hD23
      have h30 : HA z25 X26 w24 := h29
      refine wl_val (iN .i64 0) (by kernel_rfl) (by kernel_rfl) ?_
      refine wl_nil ?_
      refine then_at (F := ⟨(iN .u8 n :: un :: u15 2 :: pt d.q :: iN .i64 (1 + (n % 100)) :: iN .i64 (k + 1) :: iN .i64 0 :: un :: un :: pt d.q :: iN .u8 n :: iN .u8 (n % 100) :: iN .i64 (n % 100) :: iN .i64 (1 + (n % 100)) :: pt d.q :: .bool false :: .bool false :: pt d.q :: iN .i64 (1 + (n % 100)) :: iN .i64 0 :: .bool false :: .bool false :: iN .i64 (k + 1) :: iN .i64 (1 + (n % 100)) :: iN .i64 ((1 + (n % 100)) + 3) :: .bool true :: u15 26 :: u15 27 :: pt d.q :: iN .i64 0 :: u15 30 :: u15 31 :: u15 32 :: u15 33 :: u15 34 :: u15 35 :: u15 36 :: u15 37 :: u15 38 :: u15 39 :: u15 40 :: u15 41 :: u15 42 :: u15 43 :: u15 44 :: u15 45 :: u15 46 :: u15 47 :: u15 48 :: u15 49 :: u15 50 :: u15 51 :: List.replicate 43 un).toArray, []⟩) (by kernel_rfl) ?_
      refine wp_seq ?_
      refine wl_region ?_
      refine wl_val (iN .i64 0) (by kernel_rfl) (by kernel_rfl) ?_
      refine wl_val (.bool true) (by kernel_rfl) (run_eqi (k := .i64) (a := 0) (b := 0) (by kernel_rfl) (by kernel_rfl) true (by decide)) ?_
      refine wl_val (iN .i64 (k + 1)) (by kernel_rfl) (by kernel_rfl) ?_
      refine wl_val (iN .i64 (1 + (n % 100))) (by kernel_rfl) (by kernel_rfl) ?_
      refine wl_val (.bool true) (by kernel_rfl) (run_lss (k := .i64) (a := k + 1) (b := 1 + (n % 100)) (by kernel_rfl) (by kernel_rfl) true (decide_eq_true (by omega))) ?_
      refine wl_val (.bool false) (by kernel_rfl) (by kernel_rfl) ?_
      refine wl_val (.bool false) (by kernel_rfl) (by kernel_rfl) ?_
      refine wl_val (iN .i64 0) (by kernel_rfl) (by kernel_rfl) ?_
      refine wl_val (.bool false) (by kernel_rfl) (run_nei (k := .i64) (a := 0) (b := 0) (by kernel_rfl) (by kernel_rfl) false (by decide)) ?_
      refine wl_val (.bool false) (by kernel_rfl) (by kernel_rfl) ?_
      refine wl_skip (by kernel_rfl) ?_
      refine wl_skip (by kernel_rfl) ?_
      refine wl_val (.bool false) (by kernel_rfl) (by kernel_rfl) ?_
      refine wl_val (.bool false) (by kernel_rfl) (by kernel_rfl) ?_
      refine wl_val (.bool false) (by kernel_rfl) (by kernel_rfl) ?_
      refine wl_val (.pointer (some ⟨d.q, 0, none⟩)) (by kernel_rfl) (by kernel_rfl) ?_
      refine wl_call (v := .bool false) h30 (by kernel_rfl) enter27 #[.pointer (some ⟨d.q, 0, none⟩)] (by kernel_rfl) (by have h := Down_any (hcl27 [] _ h30); rw [fa_down, decide_eq_false (by omega)] at h; exact h) ?_
      intro w31 h32
      refine wl_val (iN .i64 (k + 1)) (by kernel_rfl) (by kernel_rfl) ?_
      refine wl_val (iN .i64 (1 + (n % 100))) (by kernel_rfl) (by kernel_rfl) ?_
      refine wl_val (.bool false) (by kernel_rfl) (run_geq (k := .i64) (a := k + 1) (b := 1 + (n % 100)) (by kernel_rfl) (by kernel_rfl) false (decide_eq_false (by omega))) ?_
      refine wl_val (.bool false) (by kernel_rfl) (by kernel_rfl) ?_
      refine wl_val (.bool false) (by kernel_rfl) (by kernel_rfl) ?_
      refine wl_nil ?_
      refine then_at (F := ⟨(iN .u8 n :: un :: u15 2 :: pt d.q :: iN .i64 (1 + (n % 100)) :: iN .i64 (k + 1) :: iN .i64 0 :: un :: un :: pt d.q :: iN .u8 n :: iN .u8 (n % 100) :: iN .i64 (n % 100) :: iN .i64 (1 + (n % 100)) :: pt d.q :: .bool false :: .bool false :: pt d.q :: iN .i64 (1 + (n % 100)) :: iN .i64 0 :: .bool false :: .bool false :: iN .i64 (k + 1) :: iN .i64 (1 + (n % 100)) :: iN .i64 ((1 + (n % 100)) + 3) :: .bool true :: u15 26 :: u15 27 :: pt d.q :: iN .i64 0 :: iN .i64 0 :: .bool true :: iN .i64 (k + 1) :: iN .i64 (1 + (n % 100)) :: .bool true :: .bool false :: .bool false :: iN .i64 0 :: .bool false :: .bool false :: un :: un :: .bool false :: .bool false :: .bool false :: pt d.q :: .bool false :: iN .i64 (k + 1) :: iN .i64 (1 + (n % 100)) :: .bool false :: .bool false :: .bool false :: List.replicate 43 un).toArray, []⟩) (by kernel_rfl) ?_
      refine wp_cond_false (by kernel_rfl) ?_
      refine wp_skip ?_
      refine block_normal ?_
      refine then_at (F := ⟨(iN .u8 n :: un :: u15 2 :: pt d.q :: iN .i64 (1 + (n % 100)) :: iN .i64 (k + 1) :: iN .i64 0 :: un :: un :: pt d.q :: iN .u8 n :: iN .u8 (n % 100) :: iN .i64 (n % 100) :: iN .i64 (1 + (n % 100)) :: pt d.q :: .bool false :: .bool false :: pt d.q :: iN .i64 (1 + (n % 100)) :: iN .i64 0 :: .bool false :: .bool false :: iN .i64 (k + 1) :: iN .i64 (1 + (n % 100)) :: iN .i64 ((1 + (n % 100)) + 3) :: .bool true :: u15 26 :: u15 27 :: pt d.q :: iN .i64 0 :: iN .i64 0 :: .bool true :: iN .i64 (k + 1) :: iN .i64 (1 + (n % 100)) :: .bool true :: .bool false :: .bool false :: iN .i64 0 :: .bool false :: .bool false :: un :: un :: .bool false :: .bool false :: .bool false :: pt d.q :: .bool false :: iN .i64 (k + 1) :: iN .i64 (1 + (n % 100)) :: .bool false :: .bool false :: .bool false :: List.replicate 43 un).toArray, []⟩) (by kernel_rfl) ?_
      refine wl_region ?_
      refine wl_val (iN .i64 (k + 1)) (by kernel_rfl) (by kernel_rfl) ?_
      refine wl_val (iN .i64 ((k + 1) + 1)) (by kernel_rfl) (run_add (k := .i64) (a := k + 1) (b := 1) (by kernel_rfl) (by kernel_rfl) (by first | omega | (simp only [top]; omega))) ?_
      refine wl_val (iN .i64 ((k + 1) + 1)) (by kernel_rfl) (by kernel_rfl) ?_
      refine wl_nil ?_
      exact then_I ⟨fun ii => (([(2, u15 2), (6, iN .i64 0), (22, iN .i64 (k + 1)), (23, iN .i64 (1 + (n % 100))), (24, iN .i64 ((1 + (n % 100)) + 3)), (25, .bool true), (26, iN .i64 (k + 1)), (27, iN .i64 ((k + 1) + 1)), (28, .pointer (some ⟨d.q, 0, none⟩)), (29, iN .i64 0), (30, iN .i64 0), (31, .bool true), (32, iN .i64 (k + 1)), (33, iN .i64 (1 + (n % 100))), (34, .bool true), (35, .bool false), (36, .bool false), (37, iN .i64 0), (38, .bool false), (39, .bool false), (40, undef), (41, undef), (42, .bool false), (43, .bool false), (44, .bool false), (45, .pointer (some ⟨d.q, 0, none⟩)), (46, .bool false), (47, iN .i64 (k + 1)), (48, iN .i64 (1 + (n % 100))), (49, .bool false), (50, .bool false), (51, .bool false)] : List (Nat × Value)).find? (·.1 == ii)).elim undef (·.2), by kernel_rfl, hcl27 [] _ h32⟩
    · refine wl_region ?_
      refine wl_val (.pointer (some ⟨d.q, 0, none⟩)) (by kernel_rfl) (by kernel_rfl) ?_
      refine wl_callx (by kernel_rfl) enter10 #[.pointer (some ⟨d.q, 0, none⟩), .string ({ data := #[97] }), .string ({ data := #[120] })] (by kernel_rfl) (faA_n (hcl19 [] _ h22) (by omega) (by omega) hlt) ?_
      rintro _ w34 ⟨rfl, hD33⟩
      refine ⟨_, rfl, ?_⟩
      have hD33 : DH _ _ d (faD (1 + n % 100) (k + 1)) _ _ := hD33
      obtain ⟨z35, X36, hcl37, hbe38, h39⟩ := DH.front hD33
      have h40 : HA z35 X36 w34 := h39
      refine wl_val (iN .i64 16) (by kernel_rfl) (by kernel_rfl) ?_
      refine wl_nil ?_
      refine then_at (F := ⟨(iN .u8 n :: un :: u15 2 :: pt d.q :: iN .i64 (1 + (n % 100)) :: iN .i64 (k + 1) :: iN .i64 16 :: un :: un :: pt d.q :: iN .u8 n :: iN .u8 (n % 100) :: iN .i64 (n % 100) :: iN .i64 (1 + (n % 100)) :: pt d.q :: .bool false :: .bool false :: pt d.q :: iN .i64 (1 + (n % 100)) :: iN .i64 0 :: .bool false :: .bool false :: iN .i64 (k + 1) :: iN .i64 (1 + (n % 100)) :: iN .i64 ((1 + (n % 100)) + 3) :: .bool true :: u15 26 :: u15 27 :: pt d.q :: iN .i64 16 :: u15 30 :: u15 31 :: u15 32 :: u15 33 :: u15 34 :: u15 35 :: u15 36 :: u15 37 :: u15 38 :: u15 39 :: u15 40 :: u15 41 :: u15 42 :: u15 43 :: u15 44 :: u15 45 :: u15 46 :: u15 47 :: u15 48 :: u15 49 :: u15 50 :: u15 51 :: List.replicate 43 un).toArray, []⟩) (by kernel_rfl) ?_
      refine wp_seq ?_
      refine wl_region ?_
      refine wl_val (iN .i64 16) (by kernel_rfl) (by kernel_rfl) ?_
      refine wl_val (.bool false) (by kernel_rfl) (run_eqi (k := .i64) (a := 16) (b := 0) (by kernel_rfl) (by kernel_rfl) false (by decide)) ?_
      refine wl_val (iN .i64 (k + 1)) (by kernel_rfl) (by kernel_rfl) ?_
      refine wl_val (iN .i64 (1 + (n % 100))) (by kernel_rfl) (by kernel_rfl) ?_
      refine wl_val (.bool false) (by kernel_rfl) (run_lss (k := .i64) (a := k + 1) (b := 1 + (n % 100)) (by kernel_rfl) (by kernel_rfl) false (decide_eq_false (by omega))) ?_
      refine wl_val (.bool false) (by kernel_rfl) (by kernel_rfl) ?_
      refine wl_val (.bool false) (by kernel_rfl) (by kernel_rfl) ?_
      refine wl_val (iN .i64 16) (by kernel_rfl) (by kernel_rfl) ?_
      refine wl_val (.bool true) (by kernel_rfl) (run_nei (k := .i64) (a := 16) (b := 0) (by kernel_rfl) (by kernel_rfl) true (by decide)) ?_
      refine wl_val (.bool true) (by kernel_rfl) (by kernel_rfl) ?_
      refine wl_val (iN .i64 16) (by kernel_rfl) (by kernel_rfl) ?_
      refine wl_val (.bool false) (by kernel_rfl) (run_nei (k := .i64) (a := 16) (b := 16) (by kernel_rfl) (by kernel_rfl) false (by decide)) ?_
      refine wl_val (.bool false) (by kernel_rfl) (by kernel_rfl) ?_
      refine wl_val (.bool false) (by kernel_rfl) (by kernel_rfl) ?_
      refine wl_val (.bool false) (by kernel_rfl) (by kernel_rfl) ?_
      refine wl_val (.pointer (some ⟨d.q, 0, none⟩)) (by kernel_rfl) (by kernel_rfl) ?_
      refine wl_call (v := .bool true) h40 (by kernel_rfl) enter27 #[.pointer (some ⟨d.q, 0, none⟩)] (by kernel_rfl) (by have h := Down_any (hcl37 [] _ h40); rw [fa_down, decide_eq_true (by omega)] at h; exact h) ?_
      intro w41 h42
      refine wl_val (iN .i64 (k + 1)) (by kernel_rfl) (by kernel_rfl) ?_
      refine wl_val (iN .i64 (1 + (n % 100))) (by kernel_rfl) (by kernel_rfl) ?_
      refine wl_val (.bool true) (by kernel_rfl) (run_geq (k := .i64) (a := k + 1) (b := 1 + (n % 100)) (by kernel_rfl) (by kernel_rfl) true (decide_eq_true (by omega))) ?_
      refine wl_val (.bool false) (by kernel_rfl) (by kernel_rfl) ?_
      refine wl_val (.bool false) (by kernel_rfl) (by kernel_rfl) ?_
      refine wl_nil ?_
      refine then_at (F := ⟨(iN .u8 n :: un :: u15 2 :: pt d.q :: iN .i64 (1 + (n % 100)) :: iN .i64 (k + 1) :: iN .i64 16 :: un :: un :: pt d.q :: iN .u8 n :: iN .u8 (n % 100) :: iN .i64 (n % 100) :: iN .i64 (1 + (n % 100)) :: pt d.q :: .bool false :: .bool false :: pt d.q :: iN .i64 (1 + (n % 100)) :: iN .i64 0 :: .bool false :: .bool false :: iN .i64 (k + 1) :: iN .i64 (1 + (n % 100)) :: iN .i64 ((1 + (n % 100)) + 3) :: .bool true :: u15 26 :: u15 27 :: pt d.q :: iN .i64 16 :: iN .i64 16 :: .bool false :: iN .i64 (k + 1) :: iN .i64 (1 + (n % 100)) :: .bool false :: .bool false :: .bool false :: iN .i64 16 :: .bool true :: .bool true :: iN .i64 16 :: .bool false :: .bool false :: .bool false :: .bool false :: pt d.q :: .bool true :: iN .i64 (k + 1) :: iN .i64 (1 + (n % 100)) :: .bool true :: .bool false :: .bool false :: List.replicate 43 un).toArray, []⟩) (by kernel_rfl) ?_
      refine wp_cond_false (by kernel_rfl) ?_
      refine wp_skip ?_
      refine block_normal ?_
      refine then_at (F := ⟨(iN .u8 n :: un :: u15 2 :: pt d.q :: iN .i64 (1 + (n % 100)) :: iN .i64 (k + 1) :: iN .i64 16 :: un :: un :: pt d.q :: iN .u8 n :: iN .u8 (n % 100) :: iN .i64 (n % 100) :: iN .i64 (1 + (n % 100)) :: pt d.q :: .bool false :: .bool false :: pt d.q :: iN .i64 (1 + (n % 100)) :: iN .i64 0 :: .bool false :: .bool false :: iN .i64 (k + 1) :: iN .i64 (1 + (n % 100)) :: iN .i64 ((1 + (n % 100)) + 3) :: .bool true :: u15 26 :: u15 27 :: pt d.q :: iN .i64 16 :: iN .i64 16 :: .bool false :: iN .i64 (k + 1) :: iN .i64 (1 + (n % 100)) :: .bool false :: .bool false :: .bool false :: iN .i64 16 :: .bool true :: .bool true :: iN .i64 16 :: .bool false :: .bool false :: .bool false :: .bool false :: pt d.q :: .bool true :: iN .i64 (k + 1) :: iN .i64 (1 + (n % 100)) :: .bool true :: .bool false :: .bool false :: List.replicate 43 un).toArray, []⟩) (by kernel_rfl) ?_
      refine wl_region ?_
      refine wl_val (iN .i64 (k + 1)) (by kernel_rfl) (by kernel_rfl) ?_
      refine wl_val (iN .i64 ((k + 1) + 1)) (by kernel_rfl) (run_add (k := .i64) (a := k + 1) (b := 1) (by kernel_rfl) (by kernel_rfl) (by first | omega | (simp only [top]; omega))) ?_
      refine wl_val (iN .i64 ((k + 1) + 1)) (by kernel_rfl) (by kernel_rfl) ?_
      refine wl_nil ?_
      exact then_I ⟨fun ii => (([(2, u15 2), (6, iN .i64 16), (22, iN .i64 (k + 1)), (23, iN .i64 (1 + (n % 100))), (24, iN .i64 ((1 + (n % 100)) + 3)), (25, .bool true), (26, iN .i64 (k + 1)), (27, iN .i64 ((k + 1) + 1)), (28, .pointer (some ⟨d.q, 0, none⟩)), (29, iN .i64 16), (30, iN .i64 16), (31, .bool false), (32, iN .i64 (k + 1)), (33, iN .i64 (1 + (n % 100))), (34, .bool false), (35, .bool false), (36, .bool false), (37, iN .i64 16), (38, .bool true), (39, .bool true), (40, iN .i64 16), (41, .bool false), (42, .bool false), (43, .bool false), (44, .bool false), (45, .pointer (some ⟨d.q, 0, none⟩)), (46, .bool true), (47, iN .i64 (k + 1)), (48, iN .i64 (1 + (n % 100))), (49, .bool true), (50, .bool false), (51, .bool false)] : List (Nat × Value)).find? (·.1 == ii)).elim undef (·.2), by kernel_rfl, hcl37 [] _ h42⟩
  · rintro _ w43 ⟨u15, rfl, hLp⟩
    obtain ⟨z44, X45, hcl46, hbe47, h48⟩ := DH.front hLp
    have h49 : HA z44 X45 w43 := h48
    refine wp_seq ?_
    refine wp_seq ?_
    refine wl_region ?_
    refine wl_val (iN .i64 (((1 + n % 100) + 3) + 1)) (by kernel_rfl) (by kernel_rfl) ?_
    refine wl_val (iN .i64 (1 + (n % 100))) (by kernel_rfl) (by kernel_rfl) ?_
    refine wl_val (iN .i64 ((1 + (n % 100)) + 3)) (by kernel_rfl) (run_add (k := .i64) (a := 1 + (n % 100)) (b := 3) (by kernel_rfl) (by kernel_rfl) (by first | omega | (simp only [top]; omega))) ?_
    refine wl_val (.bool false) (by kernel_rfl) (run_leq (k := .i64) (a := ((1 + n % 100) + 3) + 1) (b := (1 + (n % 100)) + 3) (by kernel_rfl) (by kernel_rfl) false (decide_eq_false (by omega))) ?_
    refine wl_nil ?_
    refine then_at (F := ⟨(iN .u8 n :: un :: u15 2 :: pt d.q :: iN .i64 (1 + (n % 100)) :: iN .i64 (((1 + n % 100) + 3) + 1) :: u15 6 :: un :: un :: pt d.q :: iN .u8 n :: iN .u8 (n % 100) :: iN .i64 (n % 100) :: iN .i64 (1 + (n % 100)) :: pt d.q :: .bool false :: .bool false :: pt d.q :: iN .i64 (1 + (n % 100)) :: iN .i64 0 :: .bool false :: .bool false :: iN .i64 (((1 + n % 100) + 3) + 1) :: iN .i64 (1 + (n % 100)) :: iN .i64 ((1 + (n % 100)) + 3) :: .bool false :: u15 26 :: u15 27 :: u15 28 :: u15 29 :: u15 30 :: u15 31 :: u15 32 :: u15 33 :: u15 34 :: u15 35 :: u15 36 :: u15 37 :: u15 38 :: u15 39 :: u15 40 :: u15 41 :: u15 42 :: u15 43 :: u15 44 :: u15 45 :: u15 46 :: u15 47 :: u15 48 :: u15 49 :: u15 50 :: u15 51 :: List.replicate 43 un).toArray, []⟩) (by kernel_rfl) ?_
    refine wp_cond_false (by kernel_rfl) ?_
    refine wp_exit ?_
    repeat first | refine then_exit ?_ | refine block_exit ?_ | refine block_exit_ne (by decide) ?_
    refine then_at (F := ⟨(iN .u8 n :: un :: u15 2 :: pt d.q :: iN .i64 (1 + (n % 100)) :: iN .i64 (((1 + n % 100) + 3) + 1) :: u15 6 :: un :: un :: pt d.q :: iN .u8 n :: iN .u8 (n % 100) :: iN .i64 (n % 100) :: iN .i64 (1 + (n % 100)) :: pt d.q :: .bool false :: .bool false :: pt d.q :: iN .i64 (1 + (n % 100)) :: iN .i64 0 :: .bool false :: .bool false :: iN .i64 (((1 + n % 100) + 3) + 1) :: iN .i64 (1 + (n % 100)) :: iN .i64 ((1 + (n % 100)) + 3) :: .bool false :: u15 26 :: u15 27 :: u15 28 :: u15 29 :: u15 30 :: u15 31 :: u15 32 :: u15 33 :: u15 34 :: u15 35 :: u15 36 :: u15 37 :: u15 38 :: u15 39 :: u15 40 :: u15 41 :: u15 42 :: u15 43 :: u15 44 :: u15 45 :: u15 46 :: u15 47 :: u15 48 :: u15 49 :: u15 50 :: u15 51 :: List.replicate 43 un).toArray, []⟩) (by kernel_rfl) ?_
    refine wp_seq ?_
    refine wl_region ?_
    refine wl_val (.pointer (some ⟨d.q, 0, none⟩)) (by kernel_rfl) (by kernel_rfl) ?_
    refine wl_call (v := .tuple #[.string ({ data := #[] }), iN .i64 16]) h49 (by kernel_rfl) enter23 #[.pointer (some ⟨d.q, 0, none⟩), .string ({ data := #[97] })] (by kernel_rfl) (by have h := Read_any (hcl46 [] _ h49) { data := #[97] }; rw [readD, if_pos (by rw [fa_down]; exact decide_eq_true (by omega))] at h; exact h) ?_
    intro w50 h51
    refine wl_val (.tuple #[.string ({ data := #[] }), iN .i64 16]) (by kernel_rfl) (by kernel_rfl) ?_
    refine wl_val (.string ({ data := #[] })) (by kernel_rfl) (by kernel_rfl) ?_
    refine wl_val (iN .i64 16) (by kernel_rfl) (by kernel_rfl) ?_
    refine wl_val (.string ({ data := #[] })) (by kernel_rfl) (by kernel_rfl) ?_
    refine wl_val (iN .i64 16) (by kernel_rfl) (by kernel_rfl) ?_
    refine wl_nil ?_
    refine then_at (F := ⟨(iN .u8 n :: un :: u15 2 :: pt d.q :: iN .i64 (1 + (n % 100)) :: iN .i64 (((1 + n % 100) + 3) + 1) :: u15 6 :: .string ({ data := #[] }) :: iN .i64 16 :: pt d.q :: iN .u8 n :: iN .u8 (n % 100) :: iN .i64 (n % 100) :: iN .i64 (1 + (n % 100)) :: pt d.q :: .bool false :: .bool false :: pt d.q :: iN .i64 (1 + (n % 100)) :: iN .i64 0 :: .bool false :: .bool false :: iN .i64 (((1 + n % 100) + 3) + 1) :: iN .i64 (1 + (n % 100)) :: iN .i64 ((1 + (n % 100)) + 3) :: .bool false :: u15 26 :: u15 27 :: u15 28 :: u15 29 :: u15 30 :: u15 31 :: u15 32 :: u15 33 :: u15 34 :: u15 35 :: u15 36 :: u15 37 :: u15 38 :: u15 39 :: u15 40 :: u15 41 :: u15 42 :: u15 43 :: u15 44 :: u15 45 :: u15 46 :: u15 47 :: u15 48 :: u15 49 :: u15 50 :: u15 51 :: .tuple #[.string ({ data := #[] }), iN .i64 16] :: pt d.q :: .tuple #[.string ({ data := #[] }), iN .i64 16] :: .string ({ data := #[] }) :: iN .i64 16 :: List.replicate 38 un).toArray, []⟩) (by kernel_rfl) ?_
    refine wp_seq ?_
    refine wp_seq ?_
    refine wl_region ?_
    refine wl_val (iN .i64 16) (by kernel_rfl) (by kernel_rfl) ?_
    refine wl_val (.bool false) (by kernel_rfl) (run_nei (k := .i64) (a := 16) (b := 16) (by kernel_rfl) (by kernel_rfl) false (by decide)) ?_
    refine wl_val (.bool false) (by kernel_rfl) (by kernel_rfl) ?_
    refine wl_val (.pointer (some ⟨d.q, 0, none⟩)) (by kernel_rfl) (by kernel_rfl) ?_
    refine wl_callx (by kernel_rfl) enter18 #[.pointer (some ⟨d.q, 0, none⟩), iN .i64 1] (by kernel_rfl) (by have h := Arm_any (hcl46 [] _ h51) 1; rw [armD, if_pos (by rw [fa_down]; exact decide_eq_true (by omega))] at h; exact h) ?_
    rintro _ w52 ⟨rfl, hDb⟩
    refine ⟨_, rfl, ?_⟩
    have hDb : DH _ _ d (faD (1 + n % 100) ((1 + n % 100) + 3)) _ _ := hDb
    obtain ⟨z53, X54, hcl55, hbe56, h57⟩ := DH.front hDb
    have h58 : HA z53 X54 w52 := h57
    refine wl_val (.bool false) (by kernel_rfl) (run_nei (k := .i64) (a := 16) (b := 16) (by kernel_rfl) (by kernel_rfl) false (by decide)) ?_
    refine wl_val (.bool false) (by kernel_rfl) (by kernel_rfl) ?_
    refine wl_val (.bool false) (by kernel_rfl) (by kernel_rfl) ?_
    refine wl_val (.pointer (some ⟨d.q, 0, none⟩)) (by kernel_rfl) (by kernel_rfl) ?_
    refine wl_callx (by kernel_rfl) enter29 #[.pointer (some ⟨d.q, 0, none⟩), .string ({ data := #[] })] (by kernel_rfl) (List_any (hcl55 [] _ h58) { data := #[] } (fa_DB (by omega) (by omega)) (by decide)) ?_
    rintro _ w59 ⟨vl, Ll, rfl, hRl, hLl⟩
    refine ⟨_, rfl, ?_⟩
    obtain ⟨pl, cl, rfl⟩ := hRl.form
    have h60 := HA.keep _ _ h58 hLl.old.old
    have hll : (listD (faD (1 + n % 100) ((1 + n % 100) + 3)) { data := #[] }).length = 0 := by rw [listD, if_pos (by rw [fa_down]; exact decide_eq_true (by omega))]; rfl
    rw [hll] at hRl ⊢
    refine wl_val (iN .i64 0) (by kernel_rfl) (by kernel_rfl) ?_
    refine wl_val (.bool false) (by kernel_rfl) (run_nei (k := .i64) (a := 0) (b := 0) (by kernel_rfl) (by kernel_rfl) false (by decide)) ?_
    refine wl_val (.bool false) (by kernel_rfl) (by kernel_rfl) ?_
    refine wl_val (.bool false) (by kernel_rfl) (by kernel_rfl) ?_
    refine wl_val (.pointer (some ⟨d.q, 0, none⟩)) (by kernel_rfl) (by kernel_rfl) ?_
    refine wl_callx (by kernel_rfl) enter30 #[.pointer (some ⟨d.q, 0, none⟩)] (by kernel_rfl) (Sizes_any (hcl55 [] _ h60) (by have := (fa_DB (a := (1 + n % 100)) (k := (1 + n % 100) + 3) (by omega) (by omega)).sz; omega)) ?_
    rintro _ w61 ⟨vs, rfl, hos, hbs⟩
    refine ⟨_, rfl, ?_⟩
    have h62 := HA.keep _ _ h60 hbs
    obtain ⟨ps, cs, rfl⟩ : ∃ p c, vs = .slice p (faD (1 + n % 100) ((1 + n % 100) + 3)).sizes.length c := by
      obtain ⟨Lq, hq, _⟩ := HA.owned h60 hbs hos
      exact hq.form
    rw [fa_end (by omega)] at hos ⊢
    simp only [List.length_replicate] at hos ⊢
    refine wl_val (iN .i64 ((1 + n % 100) - 1)) (by kernel_rfl) (by kernel_rfl) ?_
    refine wl_val (iN .i64 (1 + (n % 100))) (by kernel_rfl) (by kernel_rfl) ?_
    refine wl_val (iN .i64 ((1 + (n % 100)) - 1)) (by kernel_rfl) (run_sub (k := .i64) (a := 1 + (n % 100)) (b := 1) (by kernel_rfl) (by kernel_rfl) (by first | omega | (simp only [top]; omega)) (by first | omega | (simp only [top]; omega))) ?_
    refine wl_val (.bool false) (by kernel_rfl) (run_nei (k := .i64) (a := (1 + n % 100) - 1) (b := (1 + (n % 100)) - 1) (by kernel_rfl) (by kernel_rfl) false (decide_eq_false (by omega))) ?_
    refine wl_val (.bool false) (by kernel_rfl) (by kernel_rfl) ?_
    refine wl_val (.bool false) (by kernel_rfl) (by kernel_rfl) ?_
    refine wl_val (.pointer (some ⟨d.q, 0, none⟩)) (by kernel_rfl) (by kernel_rfl) ?_
    refine wl_mks (n := 1) (m := 1) (c := intc [99999]) h62 3 (by kernel_rfl) (by kernel_rfl) ?_
    intro q63 w64 (h65 : HA z53 ((q63, 3, intc [99999]) :: X54) w64)
    refine wl_callx (by kernel_rfl) enter20 #[.pointer (some ⟨d.q, 0, none⟩), .slice (some ⟨q63, 0, none⟩) 1 1] (by kernel_rfl) (Wake_any (o := some ⟨q63, 0, none⟩) (c := 1) (ks := [99999]) (hcl55 [(q63, 3, intc [99999])] _ h65) (KV.own (cu := intc [99999]) (by simp) (kv_one 99999)) (by decide) (fa_DB (by omega) (by omega)) (by decide) (by decide)) ?_
    rintro _ w66 ⟨rfl, hDw⟩
    refine ⟨_, rfl, ?_⟩
    have hDw2 := DH.drop (A := [(q63, 3, intc [99999])]) hDw
    obtain ⟨DE, hDE⟩ : ∃ DE, DE = faD (1 + n % 100) ((1 + n % 100) + 3) := ⟨_, rfl⟩
    have hbE : DB DE 100 100 := by rw [hDE]; exact fa_DB (by omega) (by omega)
    have hfin := fa_last (D := DE) [99999] (by rw [hDE, fa_end (by omega)]; show 1 ≤ 65536 - _; omega)
    rw [← hDE] at hDw2
    have hDw2 : DH _ _ d (wakeD DE [99999]) _ _ := hDw2
    obtain ⟨z67, X68, hcl69, hbe70, h71⟩ := DH.front hDw2
    have h72 : HA z67 X68 w66 := h71
    refine wl_val (.bool false) (by kernel_rfl) (run_nei (k := .i64) (a := 0) (b := 0) (by kernel_rfl) (by kernel_rfl) false (by decide)) ?_
    refine wl_val (.bool false) (by kernel_rfl) (by kernel_rfl) ?_
    refine wl_nil ?_
    refine then_at (F := ⟨(iN .u8 n :: un :: u15 2 :: pt d.q :: iN .i64 (1 + (n % 100)) :: iN .i64 (((1 + n % 100) + 3) + 1) :: u15 6 :: .string ({ data := #[] }) :: iN .i64 16 :: pt d.q :: iN .u8 n :: iN .u8 (n % 100) :: iN .i64 (n % 100) :: iN .i64 (1 + (n % 100)) :: pt d.q :: .bool false :: .bool false :: pt d.q :: iN .i64 (1 + (n % 100)) :: iN .i64 0 :: .bool false :: .bool false :: iN .i64 (((1 + n % 100) + 3) + 1) :: iN .i64 (1 + (n % 100)) :: iN .i64 ((1 + (n % 100)) + 3) :: .bool false :: u15 26 :: u15 27 :: u15 28 :: u15 29 :: u15 30 :: u15 31 :: u15 32 :: u15 33 :: u15 34 :: u15 35 :: u15 36 :: u15 37 :: u15 38 :: u15 39 :: u15 40 :: u15 41 :: u15 42 :: u15 43 :: u15 44 :: u15 45 :: u15 46 :: u15 47 :: u15 48 :: u15 49 :: u15 50 :: u15 51 :: .tuple #[.string ({ data := #[] }), iN .i64 16] :: pt d.q :: .tuple #[.string ({ data := #[] }), iN .i64 16] :: .string ({ data := #[] }) :: iN .i64 16 :: iN .i64 16 :: .bool false :: .bool false :: pt d.q :: iN .i64 16 :: .bool false :: .bool false :: .bool false :: pt d.q :: .slice pl 0 cl :: iN .i64 0 :: .bool false :: .bool false :: .bool false :: pt d.q :: .slice ps ((1 + n % 100) - 1) cs :: iN .i64 ((1 + n % 100) - 1) :: iN .i64 (1 + (n % 100)) :: iN .i64 ((1 + (n % 100)) - 1) :: .bool false :: .bool false :: .bool false :: pt d.q :: .slice (some ⟨q63, 0, none⟩) 1 1 :: iN .i64 0 :: .bool false :: .bool false :: List.replicate 11 un).toArray, []⟩) (by kernel_rfl) ?_
    refine wp_cond_false (by kernel_rfl) ?_
    refine wp_skip ?_
    refine then_at (F := ⟨(iN .u8 n :: un :: u15 2 :: pt d.q :: iN .i64 (1 + (n % 100)) :: iN .i64 (((1 + n % 100) + 3) + 1) :: u15 6 :: .string ({ data := #[] }) :: iN .i64 16 :: pt d.q :: iN .u8 n :: iN .u8 (n % 100) :: iN .i64 (n % 100) :: iN .i64 (1 + (n % 100)) :: pt d.q :: .bool false :: .bool false :: pt d.q :: iN .i64 (1 + (n % 100)) :: iN .i64 0 :: .bool false :: .bool false :: iN .i64 (((1 + n % 100) + 3) + 1) :: iN .i64 (1 + (n % 100)) :: iN .i64 ((1 + (n % 100)) + 3) :: .bool false :: u15 26 :: u15 27 :: u15 28 :: u15 29 :: u15 30 :: u15 31 :: u15 32 :: u15 33 :: u15 34 :: u15 35 :: u15 36 :: u15 37 :: u15 38 :: u15 39 :: u15 40 :: u15 41 :: u15 42 :: u15 43 :: u15 44 :: u15 45 :: u15 46 :: u15 47 :: u15 48 :: u15 49 :: u15 50 :: u15 51 :: .tuple #[.string ({ data := #[] }), iN .i64 16] :: pt d.q :: .tuple #[.string ({ data := #[] }), iN .i64 16] :: .string ({ data := #[] }) :: iN .i64 16 :: iN .i64 16 :: .bool false :: .bool false :: pt d.q :: iN .i64 16 :: .bool false :: .bool false :: .bool false :: pt d.q :: .slice pl 0 cl :: iN .i64 0 :: .bool false :: .bool false :: .bool false :: pt d.q :: .slice ps ((1 + n % 100) - 1) cs :: iN .i64 ((1 + n % 100) - 1) :: iN .i64 (1 + (n % 100)) :: iN .i64 ((1 + (n % 100)) - 1) :: .bool false :: .bool false :: .bool false :: pt d.q :: .slice (some ⟨q63, 0, none⟩) 1 1 :: iN .i64 0 :: .bool false :: .bool false :: List.replicate 11 un).toArray, []⟩) (by kernel_rfl) ?_
    refine wp_seq ?_
    refine wl_region ?_
    refine wl_val (.pointer (some ⟨d.q, 0, none⟩)) (by kernel_rfl) (by kernel_rfl) ?_
    refine wl_callx (by kernel_rfl) enter10 #[.pointer (some ⟨d.q, 0, none⟩), .string ({ data := #[98] }), .string ({ data := #[121] })] (by kernel_rfl) (by have h := Append_any (hcl69 [] _ h72) { data := #[98] } { data := #[121] } (wake_DB hbE _) (by decide) (by decide); rw [hfin.1] at h; exact h) ?_
    rintro _ w73 ⟨rfl, hDl⟩
    refine ⟨_, rfl, ?_⟩
    have hDl : DH _ _ d ((AppendD (wakeD DE [99999]) { data := #[98] } { data := #[121] }).1) _ _ := hDl
    obtain ⟨z74, X75, hcl76, hbe77, h78⟩ := DH.front hDl
    have h79 : HA z74 X75 w73 := h78
    refine wl_val (.bool true) (by kernel_rfl) (run_eqi (k := .i64) (a := 0) (b := 0) (by kernel_rfl) (by kernel_rfl) true (by decide)) ?_
    refine wl_val (.bool true) (by kernel_rfl) (by kernel_rfl) ?_
    refine wl_val (.pointer (some ⟨d.q, 0, none⟩)) (by kernel_rfl) (by kernel_rfl) ?_
    refine wl_call (v := .bool false) h79 (by kernel_rfl) enter27 #[.pointer (some ⟨d.q, 0, none⟩)] (by kernel_rfl) (by have h := Down_any (hcl76 [] _ h79); rw [hfin.2] at h; exact h) ?_
    intro w80 h81
    refine wl_val (.bool true) (by kernel_rfl) (by kernel_rfl) ?_
    refine wl_val (.bool true) (by kernel_rfl) (by kernel_rfl) ?_
    refine wl_val (.bool true) (by kernel_rfl) (by kernel_rfl) ?_
    refine wl_call (v := .bool true) h81 (by kernel_rfl) enter26 #[] (by kernel_rfl) (works_any w80) ?_
    intro w82 h83
    refine wl_val (.bool true) (by kernel_rfl) (by kernel_rfl) ?_
    refine wl_val (.bool true) (by kernel_rfl) (by kernel_rfl) ?_
    refine wl_nil ?_
    refine then_at (F := ⟨(iN .u8 n :: un :: .bool true :: pt d.q :: iN .i64 (1 + (n % 100)) :: iN .i64 (((1 + n % 100) + 3) + 1) :: u15 6 :: .string ({ data := #[] }) :: iN .i64 16 :: pt d.q :: iN .u8 n :: iN .u8 (n % 100) :: iN .i64 (n % 100) :: iN .i64 (1 + (n % 100)) :: pt d.q :: .bool false :: .bool false :: pt d.q :: iN .i64 (1 + (n % 100)) :: iN .i64 0 :: .bool false :: .bool false :: iN .i64 (((1 + n % 100) + 3) + 1) :: iN .i64 (1 + (n % 100)) :: iN .i64 ((1 + (n % 100)) + 3) :: .bool false :: u15 26 :: u15 27 :: u15 28 :: u15 29 :: u15 30 :: u15 31 :: u15 32 :: u15 33 :: u15 34 :: u15 35 :: u15 36 :: u15 37 :: u15 38 :: u15 39 :: u15 40 :: u15 41 :: u15 42 :: u15 43 :: u15 44 :: u15 45 :: u15 46 :: u15 47 :: u15 48 :: u15 49 :: u15 50 :: u15 51 :: .tuple #[.string ({ data := #[] }), iN .i64 16] :: pt d.q :: .tuple #[.string ({ data := #[] }), iN .i64 16] :: .string ({ data := #[] }) :: iN .i64 16 :: iN .i64 16 :: .bool false :: .bool false :: pt d.q :: iN .i64 16 :: .bool false :: .bool false :: .bool false :: pt d.q :: .slice pl 0 cl :: iN .i64 0 :: .bool false :: .bool false :: .bool false :: pt d.q :: .slice ps ((1 + n % 100) - 1) cs :: iN .i64 ((1 + n % 100) - 1) :: iN .i64 (1 + (n % 100)) :: iN .i64 ((1 + (n % 100)) - 1) :: .bool false :: .bool false :: .bool false :: pt d.q :: .slice (some ⟨q63, 0, none⟩) 1 1 :: iN .i64 0 :: .bool false :: .bool false :: pt d.q :: iN .i64 0 :: .bool true :: .bool true :: pt d.q :: .bool false :: .bool true :: .bool true :: .bool true :: .bool true :: .bool true :: List.replicate 0 un).toArray, []⟩) (by kernel_rfl) ?_
    refine wp_ret ?_
    repeat first | refine then_ret ?_ | refine block_ret ?_
    exact bodyPost_ret (v := .bool true) (by kernel_rfl) rfl ⟨rfl, hbe77 _ _ h83⟩
end Go.Proofs.Ytjedhnjjgmbcbaa
