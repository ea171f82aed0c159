/-
  Texts of the laws: digits back, numbers, what is brought to its length.
-/
import Derived.Test.YthljhhhjdajfhaaA8
namespace Go.Proofs.Ythljhhhjdajfhaa
open Go.RowKit

section
variable {ρ : Operand → Value} {x y : Operand} {w : World} {dst : Option Tmp} {T T2 ty : TypeId} {pos : String} {aft : Array Edge} {gd : Option (Nat × Bool)} {k : IntKind} {a b : Nat} {P : Program}
theorem run_geq (hx : ρ x = iN k a) (hy : ρ y = iN k b) (t : Bool) (ht : decide (b ≤ a) = t) : (execOp ρ ⟨dst, .binOp .geq T x y T2, ty, pos, aft, gd⟩).run P w = .ok (.value (.bool t)) w := by
  subst ht
  simp only [execOp, hx, hy, iN]
  simp [binOp, go_sem]
end
def isH (u : UInt8) : Prop := (48 ≤ u.toNat ∧ u.toNat ≤ 57) ∨ (97 ≤ u.toNat ∧ u.toNat ≤ 102)
def hv (u : UInt8) : UInt8 := if u.toNat ≤ 57 then UInt8.ofNat (u.toNat - 48) else UInt8.ofNat (u.toNat - 97 + 10)
theorem hv_a (u : UInt8) (h : u.toNat ≤ 57) : (hv u).toNat = u.toNat - 48 := by unfold hv; rw [if_pos h, UInt8.toNat_ofNat', Nat.mod_eq_of_lt (by omega)]
theorem hv_b (u : UInt8) (h : ¬ u.toNat ≤ 57) (h2 : u.toNat ≤ 102) : (hv u).toNat = u.toNat - 97 + 10 := by unfold hv; rw [if_neg h, UInt8.toNat_ofNat', Nat.mod_eq_of_lt (by omega)]

set_option linter.unusedVariables false in
set_option maxRecDepth 100000 in
set_option maxHeartbeats 2000000 in
theorem half_a (u : UInt8) (h1 : 48 ≤ u.toNat) (h2 : u.toNat ≤ 57) (w : World) :
    Calls Try.prog 34 #[by8 u] w fun e w' => e = .returned (.tuple #[by8 (hv u), .bool true]) ∧ Below w.heap.size w w' := by
  have H0 := HA.start w
  go_enter Try.func34, Try.ntmps34
  refine wp_seq ?_
  -- region 0
  refine wl_region ?_
  refine wl_val (by8 0) (by kernel_rfl) (by kernel_rfl) ?_
  refine wl_val (.bool false) (by kernel_rfl) (by kernel_rfl) ?_
  refine wl_nil ?_
  refine then_at (F := ⟨(by8 u :: un :: by8 0 :: .bool false :: List.replicate 19 un).toArray, []⟩) (by kernel_rfl) ?_
  refine wp_seq ?_
  refine wp_block ?_
  refine wp_seq ?_
  -- region 1
  refine wl_region ?_
  refine wl_val (by8 u) (by kernel_rfl) (by kernel_rfl) ?_
  refine wl_val (.bool true) (by kernel_rfl) (run_geq (k := .u8) (a := u.toNat) (b := 48) (by kernel_rfl) (by kernel_rfl) true (decide_eq_true (by omega))) ?_
  refine wl_val (.bool true) (by kernel_rfl) (by kernel_rfl) ?_
  refine wl_val (by8 u) (by kernel_rfl) (by kernel_rfl) ?_
  refine wl_val (.bool true) (by kernel_rfl) (run_leq (k := .u8) (a := u.toNat) (b := 57) (by kernel_rfl) (by kernel_rfl) true (decide_eq_true (by omega))) ?_
  refine wl_val (.bool true) (by kernel_rfl) (by kernel_rfl) ?_
  refine wl_val (.bool true) (by kernel_rfl) (by kernel_rfl) ?_
  refine wl_nil ?_
  refine then_at (F := ⟨(by8 u :: un :: by8 0 :: .bool false :: .bool true :: by8 u :: .bool true :: .bool true :: by8 u :: .bool true :: .bool true :: List.replicate 12 un).toArray, []⟩) (by kernel_rfl) ?_
  refine wp_cond_true (by kernel_rfl) ?_
  refine wp_seq ?_
  -- region 2
  refine wl_region ?_
  refine wl_val (by8 u) (by kernel_rfl) (by kernel_rfl) ?_
  refine wl_val (iN .u8 (u.toNat - 48)) (by kernel_rfl) (run_sub (k := .u8) (a := u.toNat) (b := 48) (by kernel_rfl) (by kernel_rfl) (by omega) (by simp only [top]; omega)) ?_
  refine wl_val (iN .u8 (u.toNat - 48)) (by kernel_rfl) (by kernel_rfl) ?_
  refine wl_val (.bool true) (by kernel_rfl) (by kernel_rfl) ?_
  refine wl_nil ?_
  refine then_at (F := ⟨(by8 u :: un :: iN .u8 (u.toNat - 48) :: .bool true :: .bool true :: by8 u :: .bool true :: .bool true :: by8 u :: .bool true :: .bool true :: by8 u :: iN .u8 (u.toNat - 48) :: List.replicate 10 un).toArray, []⟩) (by kernel_rfl) ?_
  refine wp_ret ?_
  repeat first | refine then_ret ?_ | refine block_ret ?_
  exact bodyPost_ret (v := .tuple #[iN .u8 (u.toNat - 48), .bool true]) (by kernel_rfl) rfl ⟨by unfold by8; rw [hv_a u h2], H0.old⟩

set_option linter.unusedVariables false in
set_option maxRecDepth 100000 in
set_option maxHeartbeats 2000000 in
theorem half_b (u : UInt8) (h1 : 97 ≤ u.toNat) (h2 : u.toNat ≤ 102) (w : World) :
    Calls Try.prog 34 #[by8 u] w fun e w' => e = .returned (.tuple #[by8 (hv u), .bool true]) ∧ Below w.heap.size w w' := by
  have H0 := HA.start w
  go_enter Try.func34, Try.ntmps34
  refine wp_seq ?_
  -- region 0
  refine wl_region ?_
  refine wl_val (by8 0) (by kernel_rfl) (by kernel_rfl) ?_
  refine wl_val (.bool false) (by kernel_rfl) (by kernel_rfl) ?_
  refine wl_nil ?_
  refine then_at (F := ⟨(by8 u :: un :: by8 0 :: .bool false :: List.replicate 19 un).toArray, []⟩) (by kernel_rfl) ?_
  refine wp_seq ?_
  refine wp_block ?_
  refine wp_seq ?_
  -- region 1
  refine wl_region ?_
  refine wl_val (by8 u) (by kernel_rfl) (by kernel_rfl) ?_
  refine wl_val (.bool true) (by kernel_rfl) (run_geq (k := .u8) (a := u.toNat) (b := 48) (by kernel_rfl) (by kernel_rfl) true (decide_eq_true (by omega))) ?_
  refine wl_val (.bool true) (by kernel_rfl) (by kernel_rfl) ?_
  refine wl_val (by8 u) (by kernel_rfl) (by kernel_rfl) ?_
  refine wl_val (.bool false) (by kernel_rfl) (run_leq (k := .u8) (a := u.toNat) (b := 57) (by kernel_rfl) (by kernel_rfl) false (decide_eq_false (by omega))) ?_
  refine wl_val (.bool false) (by kernel_rfl) (by kernel_rfl) ?_
  refine wl_val (.bool false) (by kernel_rfl) (by kernel_rfl) ?_
  refine wl_nil ?_
  refine then_at (F := ⟨(by8 u :: un :: by8 0 :: .bool false :: .bool false :: by8 u :: .bool true :: .bool true :: by8 u :: .bool false :: .bool false :: List.replicate 12 un).toArray, []⟩) (by kernel_rfl) ?_
  refine wp_cond_false (by kernel_rfl) ?_
  refine wp_seq ?_
  -- region 3
  refine wl_region ?_
  refine wl_val (by8 u) (by kernel_rfl) (by kernel_rfl) ?_
  refine wl_val (.bool true) (by kernel_rfl) (run_geq (k := .u8) (a := u.toNat) (b := 97) (by kernel_rfl) (by kernel_rfl) true (decide_eq_true (by omega))) ?_
  refine wl_val (.bool true) (by kernel_rfl) (by kernel_rfl) ?_
  refine wl_val (by8 u) (by kernel_rfl) (by kernel_rfl) ?_
  refine wl_val (.bool true) (by kernel_rfl) (run_leq (k := .u8) (a := u.toNat) (b := 102) (by kernel_rfl) (by kernel_rfl) true (decide_eq_true (by omega))) ?_
  refine wl_val (.bool true) (by kernel_rfl) (by kernel_rfl) ?_
  refine wl_val (.bool true) (by kernel_rfl) (by kernel_rfl) ?_
  refine wl_nil ?_
  refine then_at (F := ⟨(by8 u :: un :: by8 0 :: .bool false :: .bool false :: by8 u :: .bool true :: .bool true :: by8 u :: .bool false :: .bool false :: un :: un :: .bool true :: by8 u :: .bool true :: .bool true :: by8 u :: .bool true :: .bool true :: List.replicate 3 un).toArray, []⟩) (by kernel_rfl) ?_
  refine wp_cond_true (by kernel_rfl) ?_
  refine wp_seq ?_
  -- region 4
  refine wl_region ?_
  refine wl_val (by8 u) (by kernel_rfl) (by kernel_rfl) ?_
  refine wl_val (iN .u8 (u.toNat - 97)) (by kernel_rfl) (run_sub (k := .u8) (a := u.toNat) (b := 97) (by kernel_rfl) (by kernel_rfl) (by omega) (by simp only [top]; omega)) ?_
  refine wl_val (iN .u8 (u.toNat - 97 + 10)) (by kernel_rfl) (run_add (k := .u8) (a := u.toNat - 97) (b := 10) (by kernel_rfl) (by kernel_rfl) (by simp only [top]; omega)) ?_
  refine wl_val (iN .u8 (u.toNat - 97 + 10)) (by kernel_rfl) (by kernel_rfl) ?_
  refine wl_val (.bool true) (by kernel_rfl) (by kernel_rfl) ?_
  refine wl_nil ?_
  refine then_at (F := ⟨(by8 u :: un :: iN .u8 (u.toNat - 97 + 10) :: .bool true :: .bool false :: by8 u :: .bool true :: .bool true :: by8 u :: .bool false :: .bool false :: un :: un :: .bool true :: by8 u :: .bool true :: .bool true :: by8 u :: .bool true :: .bool true :: by8 u :: iN .u8 (u.toNat - 97) :: iN .u8 (u.toNat - 97 + 10) :: List.replicate 0 un).toArray, []⟩) (by kernel_rfl) ?_
  refine wp_ret ?_
  repeat first | refine then_ret ?_ | refine block_ret ?_
  exact bodyPost_ret (v := .tuple #[iN .u8 (u.toNat - 97 + 10), .bool true]) (by kernel_rfl) rfl ⟨by unfold by8; rw [hv_b u (by omega) h2], H0.old⟩

theorem half_any (u : UInt8) (h : isH u) (w : World) :
    Calls Try.prog 34 #[by8 u] w fun e w' => e = .returned (.tuple #[by8 (hv u), .bool true]) ∧ Below w.heap.size w w' := by
  rcases h with h | h
  · exact half_a u h.1 h.2 w
  · exact half_b u h.1 h.2 w
def unh (l : List UInt8) : Nat → List UInt8
  | 0 => []
  | k + 1 => unh l k ++ [UInt8.ofNat ((hv (l.getD (2 * k) 0)).toNat * 2 ^ 4) ||| hv (l.getD (2 * k + 1) 0)]
theorem unh_len (l : List UInt8) : ∀ k, (unh l k).length = k
  | 0 => rfl
  | k + 1 => by rw [unh, List.length_append, unh_len l k]; rfl
theorem unb_len (l : List UInt8) (k n : Nat) (h : k ≤ n) : (unh l k ++ List.replicate (n - k) 0).length = n := by rw [padb_len, unh_len]; omega
def unhS (s : ByteArray) : ByteArray := ⟨(unh (bl s) (s.size / 2)).toArray⟩
theorem un_end (l : List UInt8) (n : Nat) : (unh l n ++ List.replicate (n - n) 0).take n = unh l n := by
  rw [Nat.sub_self, List.replicate_zero, List.append_nil, List.take_of_length_le (by rw [unh_len]; omega)]

set_option linter.unusedVariables false in
set_option maxRecDepth 100000 in
set_option maxHeartbeats 2000000 in
theorem Unhex_any (s : ByteArray) (hs : s.size ≤ 1000) (he : s.size % 2 = 0) (hd : ∀ i, i < s.size → isH ((bl s).getD i 0)) (w : World) :
    Calls Try.prog 25 #[.string s] w fun e w' => e = .returned (.tuple #[.string (unhS s), .bool true]) ∧ Below w.heap.size w w' := by
  have H0 := HA.start w
  go_enter Try.func25, Try.ntmps25
  refine wp_seq ?_
  -- region 0
  refine wl_region ?_
  refine wl_val (.string { data := #[] }) (by kernel_rfl) (by kernel_rfl) ?_
  refine wl_val (.bool false) (by kernel_rfl) (by kernel_rfl) ?_
  refine wl_nil ?_
  refine then_at (F := ⟨(.string s :: un :: .string { data := #[] } :: .bool false :: List.replicate 50 un).toArray, []⟩) (by kernel_rfl) ?_
  refine wp_seq ?_
  refine wp_seq ?_
  -- region 1
  refine wl_region ?_
  refine wl_val (.string s) (by kernel_rfl) (by kernel_rfl) ?_
  refine wl_val (iN .i64 s.size) (by kernel_rfl) (run_len (s := s) (by kernel_rfl)) ?_
  refine wl_val (iN .i64 (s.size % 2)) (by kernel_rfl) (run_rem (k := .i64) (a := s.size) (b := 2) (by kernel_rfl) (by kernel_rfl) (by omega)) ?_
  refine wl_val (.bool false) (by kernel_rfl) (run_nei (k := .i64) (a := s.size % 2) (b := 0) (by kernel_rfl) (by kernel_rfl) false (decide_eq_false (fun h => h he))) ?_
  refine wl_nil ?_
  refine then_at (F := ⟨(.string s :: un :: .string { data := #[] } :: .bool false :: un :: un :: un :: un :: un :: un :: .string s :: iN .i64 s.size :: iN .i64 (s.size % 2) :: .bool false :: List.replicate 40 un).toArray, []⟩) (by kernel_rfl) ?_
  refine wp_cond_false (by kernel_rfl) ?_
  refine wp_skip ?_
  refine then_at (F := ⟨(.string s :: un :: .string { data := #[] } :: .bool false :: un :: un :: un :: un :: un :: un :: .string s :: iN .i64 s.size :: iN .i64 (s.size % 2) :: .bool false :: List.replicate 40 un).toArray, []⟩) (by kernel_rfl) ?_
  refine wp_seq ?_
  -- region 3
  refine wl_region ?_
  refine wl_val (.string s) (by kernel_rfl) (by kernel_rfl) ?_
  refine wl_val (iN .i64 s.size) (by kernel_rfl) (run_len (s := s) (by kernel_rfl)) ?_
  refine wl_val (iN .i64 (s.size / 2)) (by kernel_rfl) (run_quo (k := .i64) (a := s.size) (b := 2) (by kernel_rfl) (by kernel_rfl) (by omega) (by simp only [top]; omega)) ?_
  refine wl_mks (n := 0) (m := s.size / 2) H0 5 (by kernel_rfl) (run_mk (k := .i64) (m := 0) (c := s.size / 2) (by kernel_rfl) (by kernel_rfl) (by omega) (by omega)) ?_
  intro q1 w2 h3
  refine wl_val (.slice (some ⟨q1, 0, none⟩) 0 (s.size / 2)) (by kernel_rfl) (by kernel_rfl) ?_
  refine wl_nil ?_
  refine then_at (F := ⟨(.string s :: un :: .string { data := #[] } :: .bool false :: .slice (some ⟨q1, 0, none⟩) 0 (s.size / 2) :: un :: un :: un :: un :: un :: .string s :: iN .i64 s.size :: iN .i64 (s.size % 2) :: .bool false :: .string s :: iN .i64 s.size :: iN .i64 (s.size / 2) :: .slice (some ⟨q1, 0, none⟩) 0 (s.size / 2) :: List.replicate 36 un).toArray, []⟩) (by kernel_rfl) ?_
  refine wp_seq ?_
  refine wp_seq ?_
  -- region 4
  refine wl_region ?_
  refine wl_val (iN .i64 0) (by kernel_rfl) (by kernel_rfl) ?_
  refine wl_nil ?_
  refine then_at (F := ⟨(.string s :: un :: .string { data := #[] } :: .bool false :: .slice (some ⟨q1, 0, none⟩) 0 (s.size / 2) :: iN .i64 0 :: un :: un :: un :: un :: .string s :: iN .i64 s.size :: iN .i64 (s.size % 2) :: .bool false :: .string s :: iN .i64 s.size :: iN .i64 (s.size / 2) :: .slice (some ⟨q1, 0, none⟩) 0 (s.size / 2) :: List.replicate 36 un).toArray, []⟩) (by kernel_rfl) ?_
  refine wp_block ?_
  refine wp_count (fun k A w' => ∃ u4 : Nat → Value, A = ⟨(.string s :: un :: u4 2 :: u4 3 :: .slice (some ⟨q1, 0, none⟩) k (s.size / 2) :: iN .i64 (2 * k) :: u4 6 :: u4 7 :: u4 8 :: u4 9 :: .string s :: iN .i64 s.size :: iN .i64 (s.size % 2) :: .bool false :: .string s :: iN .i64 s.size :: iN .i64 (s.size / 2) :: .slice (some ⟨q1, 0, none⟩) 0 (s.size / 2) :: u4 18 :: u4 19 :: u4 20 :: u4 21 :: u4 22 :: u4 23 :: u4 24 :: u4 25 :: u4 26 :: u4 27 :: u4 28 :: u4 29 :: u4 30 :: u4 31 :: u4 32 :: u4 33 :: u4 34 :: u4 35 :: u4 36 :: u4 37 :: u4 38 :: u4 39 :: u4 40 :: u4 41 :: u4 42 :: u4 43 :: u4 44 :: u4 45 :: u4 46 :: u4 47 :: u4 48 :: u4 49 :: u4 50 :: u4 51 :: List.replicate 2 un).toArray, []⟩ ∧ HA w [(q1, 5, bc (unh (bl s) k ++ List.replicate (s.size / 2 - k) 0))] w') (s.size / 2) ?_ ?_ ?_
  · exact ⟨fun ii => (([(2, .string { data := #[] }), (3, .bool false), (6, undef), (7, undef), (8, undef), (9, undef), (18, undef), (19, undef), (20, undef), (21, undef), (22, undef), (23, undef), (24, undef), (25, undef), (26, undef), (27, undef), (28, undef), (29, undef), (30, undef), (31, undef), (32, undef), (33, undef), (34, undef), (35, undef), (36, undef), (37, undef), (38, undef), (39, undef), (40, undef), (41, undef), (42, undef), (43, undef), (44, undef), (45, undef), (46, undef), (47, undef), (48, undef), (49, undef), (50, undef), (51, undef)] : List (Nat × Value)).find? (·.1 == ii)).elim undef (·.2), by kernel_rfl, h3⟩
  · rintro k hk _ w5 ⟨u4, rfl, h6⟩
    refine wp_seq ?_
    refine wp_seq ?_
    -- region 5
    refine wl_region ?_
    refine wl_val (iN .i64 (2 * k)) (by kernel_rfl) (by kernel_rfl) ?_
    refine wl_val (.string s) (by kernel_rfl) (by kernel_rfl) ?_
    refine wl_val (iN .i64 s.size) (by kernel_rfl) (run_len (s := s) (by kernel_rfl)) ?_
    refine wl_val (.bool true) (by kernel_rfl) (run_lss (k := .i64) (a := 2 * k) (b := s.size) (by kernel_rfl) (by kernel_rfl) true (decide_eq_true (by omega))) ?_
    refine wl_nil ?_
    refine then_at (F := ⟨(.string s :: un :: u4 2 :: u4 3 :: .slice (some ⟨q1, 0, none⟩) k (s.size / 2) :: iN .i64 (2 * k) :: u4 6 :: u4 7 :: u4 8 :: u4 9 :: .string s :: iN .i64 s.size :: iN .i64 (s.size % 2) :: .bool false :: .string s :: iN .i64 s.size :: iN .i64 (s.size / 2) :: .slice (some ⟨q1, 0, none⟩) 0 (s.size / 2) :: iN .i64 (2 * k) :: .string s :: iN .i64 s.size :: .bool true :: u4 22 :: u4 23 :: u4 24 :: u4 25 :: u4 26 :: u4 27 :: u4 28 :: u4 29 :: u4 30 :: u4 31 :: u4 32 :: u4 33 :: u4 34 :: u4 35 :: u4 36 :: u4 37 :: u4 38 :: u4 39 :: u4 40 :: u4 41 :: u4 42 :: u4 43 :: u4 44 :: u4 45 :: u4 46 :: u4 47 :: u4 48 :: u4 49 :: u4 50 :: u4 51 :: List.replicate 2 un).toArray, []⟩) (by kernel_rfl) ?_
    refine wp_cond_true (by kernel_rfl) ?_
    refine wp_skip ?_
    refine then_at (F := ⟨(.string s :: un :: u4 2 :: u4 3 :: .slice (some ⟨q1, 0, none⟩) k (s.size / 2) :: iN .i64 (2 * k) :: u4 6 :: u4 7 :: u4 8 :: u4 9 :: .string s :: iN .i64 s.size :: iN .i64 (s.size % 2) :: .bool false :: .string s :: iN .i64 s.size :: iN .i64 (s.size / 2) :: .slice (some ⟨q1, 0, none⟩) 0 (s.size / 2) :: iN .i64 (2 * k) :: .string s :: iN .i64 s.size :: .bool true :: u4 22 :: u4 23 :: u4 24 :: u4 25 :: u4 26 :: u4 27 :: u4 28 :: u4 29 :: u4 30 :: u4 31 :: u4 32 :: u4 33 :: u4 34 :: u4 35 :: u4 36 :: u4 37 :: u4 38 :: u4 39 :: u4 40 :: u4 41 :: u4 42 :: u4 43 :: u4 44 :: u4 45 :: u4 46 :: u4 47 :: u4 48 :: u4 49 :: u4 50 :: u4 51 :: List.replicate 2 un).toArray, []⟩) (by kernel_rfl) ?_
    refine wp_seq ?_
    refine wp_block ?_
    refine wp_seq ?_
    -- region 7
    refine wl_region ?_
    refine wl_val (.string s) (by kernel_rfl) (by kernel_rfl) ?_
    refine wl_val (iN .i64 (2 * k)) (by kernel_rfl) (by kernel_rfl) ?_
    refine wl_val (by8 ((bl s).getD (2 * k) 0)) (by kernel_rfl) (run_idx (s := s) (k := .i64) (a := 2 * k) (by kernel_rfl) (by kernel_rfl) (by omega)) ?_
    refine wl_call (v := .tuple #[by8 (hv ((bl s).getD (2 * k) 0)), .bool true]) h6 (by kernel_rfl) enter34 #[by8 ((bl s).getD (2 * k) 0)] (by kernel_rfl) (half_any ((bl s).getD (2 * k) 0) (hd ((2 * k)) (by omega)) w5) ?_
    intro w7 h8
    refine wl_val (.tuple #[by8 (hv ((bl s).getD (2 * k) 0)), .bool true]) (by kernel_rfl) (by kernel_rfl) ?_
    refine wl_val (by8 (hv ((bl s).getD (2 * k) 0))) (by kernel_rfl) (by kernel_rfl) ?_
    refine wl_val (.bool true) (by kernel_rfl) (by kernel_rfl) ?_
    refine wl_val (by8 (hv ((bl s).getD (2 * k) 0))) (by kernel_rfl) (by kernel_rfl) ?_
    refine wl_val (.bool true) (by kernel_rfl) (by kernel_rfl) ?_
    refine wl_nil ?_
    refine then_at (F := ⟨(.string s :: un :: u4 2 :: u4 3 :: .slice (some ⟨q1, 0, none⟩) k (s.size / 2) :: iN .i64 (2 * k) :: by8 (hv ((bl s).getD (2 * k) 0)) :: .bool true :: u4 8 :: u4 9 :: .string s :: iN .i64 s.size :: iN .i64 (s.size % 2) :: .bool false :: .string s :: iN .i64 s.size :: iN .i64 (s.size / 2) :: .slice (some ⟨q1, 0, none⟩) 0 (s.size / 2) :: iN .i64 (2 * k) :: .string s :: iN .i64 s.size :: .bool true :: u4 22 :: u4 23 :: .tuple #[by8 (hv ((bl s).getD (2 * k) 0)), .bool true] :: .string s :: iN .i64 (2 * k) :: by8 ((bl s).getD (2 * k) 0) :: .tuple #[by8 (hv ((bl s).getD (2 * k) 0)), .bool true] :: by8 (hv ((bl s).getD (2 * k) 0)) :: .bool true :: u4 31 :: u4 32 :: u4 33 :: u4 34 :: u4 35 :: u4 36 :: u4 37 :: u4 38 :: u4 39 :: u4 40 :: u4 41 :: u4 42 :: u4 43 :: u4 44 :: u4 45 :: u4 46 :: u4 47 :: u4 48 :: u4 49 :: u4 50 :: u4 51 :: List.replicate 2 un).toArray, []⟩) (by kernel_rfl) ?_
    refine wp_seq ?_
    -- region 8
    refine wl_region ?_
    refine wl_val (.string s) (by kernel_rfl) (by kernel_rfl) ?_
    refine wl_val (iN .i64 (2 * k)) (by kernel_rfl) (by kernel_rfl) ?_
    refine wl_val (iN .i64 ((2 * k) + 1)) (by kernel_rfl) (run_add (k := .i64) (a := 2 * k) (b := 1) (by kernel_rfl) (by kernel_rfl) (by simp only [top]; omega)) ?_
    refine wl_val (by8 ((bl s).getD ((2 * k) + 1) 0)) (by kernel_rfl) (run_idx (s := s) (k := .i64) (a := (2 * k) + 1) (by kernel_rfl) (by kernel_rfl) (by omega)) ?_
    refine wl_call (v := .tuple #[by8 (hv ((bl s).getD ((2 * k) + 1) 0)), .bool true]) h8 (by kernel_rfl) enter34 #[by8 ((bl s).getD ((2 * k) + 1) 0)] (by kernel_rfl) (half_any ((bl s).getD ((2 * k) + 1) 0) (hd (((2 * k) + 1)) (by omega)) w7) ?_
    intro w9 h10
    refine wl_val (.tuple #[by8 (hv ((bl s).getD ((2 * k) + 1) 0)), .bool true]) (by kernel_rfl) (by kernel_rfl) ?_
    refine wl_val (by8 (hv ((bl s).getD ((2 * k) + 1) 0))) (by kernel_rfl) (by kernel_rfl) ?_
    refine wl_val (.bool true) (by kernel_rfl) (by kernel_rfl) ?_
    refine wl_val (by8 (hv ((bl s).getD ((2 * k) + 1) 0))) (by kernel_rfl) (by kernel_rfl) ?_
    refine wl_val (.bool true) (by kernel_rfl) (by kernel_rfl) ?_
    refine wl_nil ?_
    refine then_at (F := ⟨(.string s :: un :: u4 2 :: u4 3 :: .slice (some ⟨q1, 0, none⟩) k (s.size / 2) :: iN .i64 (2 * k) :: by8 (hv ((bl s).getD (2 * k) 0)) :: .bool true :: by8 (hv ((bl s).getD ((2 * k) + 1) 0)) :: .bool true :: .string s :: iN .i64 s.size :: iN .i64 (s.size % 2) :: .bool false :: .string s :: iN .i64 s.size :: iN .i64 (s.size / 2) :: .slice (some ⟨q1, 0, none⟩) 0 (s.size / 2) :: iN .i64 (2 * k) :: .string s :: iN .i64 s.size :: .bool true :: u4 22 :: u4 23 :: .tuple #[by8 (hv ((bl s).getD (2 * k) 0)), .bool true] :: .string s :: iN .i64 (2 * k) :: by8 ((bl s).getD (2 * k) 0) :: .tuple #[by8 (hv ((bl s).getD (2 * k) 0)), .bool true] :: by8 (hv ((bl s).getD (2 * k) 0)) :: .bool true :: .tuple #[by8 (hv ((bl s).getD ((2 * k) + 1) 0)), .bool true] :: .string s :: iN .i64 (2 * k) :: iN .i64 ((2 * k) + 1) :: by8 ((bl s).getD ((2 * k) + 1) 0) :: .tuple #[by8 (hv ((bl s).getD ((2 * k) + 1) 0)), .bool true] :: by8 (hv ((bl s).getD ((2 * k) + 1) 0)) :: .bool true :: u4 39 :: u4 40 :: u4 41 :: u4 42 :: u4 43 :: u4 44 :: u4 45 :: u4 46 :: u4 47 :: u4 48 :: u4 49 :: u4 50 :: u4 51 :: List.replicate 2 un).toArray, []⟩) (by kernel_rfl) ?_
    refine wp_seq ?_
    refine wp_seq ?_
    -- region 9
    refine wl_region ?_
    refine wl_val (.bool true) (by kernel_rfl) (by kernel_rfl) ?_
    refine wl_val (.bool false) (by kernel_rfl) (by kernel_rfl) ?_
    refine wl_val (.bool false) (by kernel_rfl) (by kernel_rfl) ?_
    refine wl_val (.bool true) (by kernel_rfl) (by kernel_rfl) ?_
    refine wl_val (.bool false) (by kernel_rfl) (by kernel_rfl) ?_
    refine wl_val (.bool false) (by kernel_rfl) (by kernel_rfl) ?_
    refine wl_nil ?_
    refine then_at (F := ⟨(.string s :: un :: u4 2 :: u4 3 :: .slice (some ⟨q1, 0, none⟩) k (s.size / 2) :: iN .i64 (2 * k) :: by8 (hv ((bl s).getD (2 * k) 0)) :: .bool true :: by8 (hv ((bl s).getD ((2 * k) + 1) 0)) :: .bool true :: .string s :: iN .i64 s.size :: iN .i64 (s.size % 2) :: .bool false :: .string s :: iN .i64 s.size :: iN .i64 (s.size / 2) :: .slice (some ⟨q1, 0, none⟩) 0 (s.size / 2) :: iN .i64 (2 * k) :: .string s :: iN .i64 s.size :: .bool true :: u4 22 :: u4 23 :: .tuple #[by8 (hv ((bl s).getD (2 * k) 0)), .bool true] :: .string s :: iN .i64 (2 * k) :: by8 ((bl s).getD (2 * k) 0) :: .tuple #[by8 (hv ((bl s).getD (2 * k) 0)), .bool true] :: by8 (hv ((bl s).getD (2 * k) 0)) :: .bool true :: .tuple #[by8 (hv ((bl s).getD ((2 * k) + 1) 0)), .bool true] :: .string s :: iN .i64 (2 * k) :: iN .i64 ((2 * k) + 1) :: by8 ((bl s).getD ((2 * k) + 1) 0) :: .tuple #[by8 (hv ((bl s).getD ((2 * k) + 1) 0)), .bool true] :: by8 (hv ((bl s).getD ((2 * k) + 1) 0)) :: .bool true :: .bool true :: .bool false :: .bool false :: .bool true :: .bool false :: .bool false :: u4 45 :: u4 46 :: u4 47 :: u4 48 :: u4 49 :: u4 50 :: u4 51 :: List.replicate 2 un).toArray, []⟩) (by kernel_rfl) ?_
    refine wp_cond_false (by kernel_rfl) ?_
    refine wp_skip ?_
    refine then_at (F := ⟨(.string s :: un :: u4 2 :: u4 3 :: .slice (some ⟨q1, 0, none⟩) k (s.size / 2) :: iN .i64 (2 * k) :: by8 (hv ((bl s).getD (2 * k) 0)) :: .bool true :: by8 (hv ((bl s).getD ((2 * k) + 1) 0)) :: .bool true :: .string s :: iN .i64 s.size :: iN .i64 (s.size % 2) :: .bool false :: .string s :: iN .i64 s.size :: iN .i64 (s.size / 2) :: .slice (some ⟨q1, 0, none⟩) 0 (s.size / 2) :: iN .i64 (2 * k) :: .string s :: iN .i64 s.size :: .bool true :: u4 22 :: u4 23 :: .tuple #[by8 (hv ((bl s).getD (2 * k) 0)), .bool true] :: .string s :: iN .i64 (2 * k) :: by8 ((bl s).getD (2 * k) 0) :: .tuple #[by8 (hv ((bl s).getD (2 * k) 0)), .bool true] :: by8 (hv ((bl s).getD (2 * k) 0)) :: .bool true :: .tuple #[by8 (hv ((bl s).getD ((2 * k) + 1) 0)), .bool true] :: .string s :: iN .i64 (2 * k) :: iN .i64 ((2 * k) + 1) :: by8 ((bl s).getD ((2 * k) + 1) 0) :: .tuple #[by8 (hv ((bl s).getD ((2 * k) + 1) 0)), .bool true] :: by8 (hv ((bl s).getD ((2 * k) + 1) 0)) :: .bool true :: .bool true :: .bool false :: .bool false :: .bool true :: .bool false :: .bool false :: u4 45 :: u4 46 :: u4 47 :: u4 48 :: u4 49 :: u4 50 :: u4 51 :: List.replicate 2 un).toArray, []⟩) (by kernel_rfl) ?_
    -- region 11
    refine wl_region ?_
    refine wl_val (.slice (some ⟨q1, 0, none⟩) k (s.size / 2)) (by kernel_rfl) (by kernel_rfl) ?_
    refine wl_val (by8 (hv ((bl s).getD (2 * k) 0))) (by kernel_rfl) (by kernel_rfl) ?_
    refine wl_val (by8 (UInt8.ofNat ((hv ((bl s).getD (2 * k) 0)).toNat * 2 ^ 4))) (by kernel_rfl) (run_shlb (k2 := .u64) (a := hv ((bl s).getD (2 * k) 0)) (m := 4) (by kernel_rfl) (by kernel_rfl) (by decide)) ?_
    refine wl_val (by8 (hv ((bl s).getD ((2 * k) + 1) 0))) (by kernel_rfl) (by kernel_rfl) ?_
    refine wl_val (by8 ((UInt8.ofNat ((hv ((bl s).getD (2 * k) 0)).toNat * 2 ^ 4)) ||| (hv ((bl s).getD ((2 * k) + 1) 0)))) (by kernel_rfl) (run_orb (a := UInt8.ofNat ((hv ((bl s).getD (2 * k) 0)).toNat * 2 ^ 4)) (b := hv ((bl s).getD ((2 * k) + 1) 0)) (by kernel_rfl) (by kernel_rfl)) ?_
    refine wl_mks (n := 1) (m := 1) h10 5 (by kernel_rfl) (run_build1 (u := (UInt8.ofNat ((hv ((bl s).getD (2 * k) 0)).toNat * 2 ^ 4)) ||| (hv ((bl s).getD ((2 * k) + 1) 0))) (by kernel_rfl)) ?_
    intro q11 w12 h13
    refine wl_app (q := q1) (r := q11) (m := k) (c := s.size / 2) (j := 1) (c2 := 1) (l := unh (bl s) k ++ List.replicate (s.size / 2 - k) 0) (n := [(UInt8.ofNat ((hv ((bl s).getD (2 * k) 0)).toNat * 2 ^ 4)) ||| (hv ((bl s).getD ((2 * k) + 1) 0))]) (l' := unh (bl s) (k + 1) ++ List.replicate (s.size / 2 - (k + 1)) 0) h13 1 0 rfl rfl (by kernel_rfl) (by kernel_rfl) (by kernel_rfl) rfl (by omega) (unb_len (bl s) k (s.size / 2) (by omega)) (app_pad _ _ _ _ (unh_len _ _) (by omega)) ?_
    intro w14 (h15 : HA w [(q11, 5, bc ([(UInt8.ofNat ((hv ((bl s).getD (2 * k) 0)).toNat * 2 ^ 4)) ||| (hv ((bl s).getD ((2 * k) + 1) 0))])), (q1, 5, bc (unh (bl s) (k + 1) ++ List.replicate (s.size / 2 - (k + 1)) 0))] w14)
    have h16 : HA w [(q1, 5, bc (unh (bl s) (k + 1) ++ List.replicate (s.size / 2 - (k + 1)) 0))] w14 := h15.tl
    clear h15
    refine wl_val (.slice (some ⟨q1, 0, none⟩) (k + 1) (s.size / 2)) (by kernel_rfl) (by kernel_rfl) ?_
    refine wl_nil ?_
    refine block_normal ?_
    refine then_at (F := ⟨(.string s :: un :: u4 2 :: u4 3 :: .slice (some ⟨q1, 0, none⟩) (k + 1) (s.size / 2) :: iN .i64 (2 * k) :: by8 (hv ((bl s).getD (2 * k) 0)) :: .bool true :: by8 (hv ((bl s).getD ((2 * k) + 1) 0)) :: .bool true :: .string s :: iN .i64 s.size :: iN .i64 (s.size % 2) :: .bool false :: .string s :: iN .i64 s.size :: iN .i64 (s.size / 2) :: .slice (some ⟨q1, 0, none⟩) 0 (s.size / 2) :: iN .i64 (2 * k) :: .string s :: iN .i64 s.size :: .bool true :: u4 22 :: u4 23 :: .tuple #[by8 (hv ((bl s).getD (2 * k) 0)), .bool true] :: .string s :: iN .i64 (2 * k) :: by8 ((bl s).getD (2 * k) 0) :: .tuple #[by8 (hv ((bl s).getD (2 * k) 0)), .bool true] :: by8 (hv ((bl s).getD (2 * k) 0)) :: .bool true :: .tuple #[by8 (hv ((bl s).getD ((2 * k) + 1) 0)), .bool true] :: .string s :: iN .i64 (2 * k) :: iN .i64 ((2 * k) + 1) :: by8 ((bl s).getD ((2 * k) + 1) 0) :: .tuple #[by8 (hv ((bl s).getD ((2 * k) + 1) 0)), .bool true] :: by8 (hv ((bl s).getD ((2 * k) + 1) 0)) :: .bool true :: .bool true :: .bool false :: .bool false :: .bool true :: .bool false :: .bool false :: .slice (some ⟨q1, 0, none⟩) k (s.size / 2) :: by8 (hv ((bl s).getD (2 * k) 0)) :: by8 (UInt8.ofNat ((hv ((bl s).getD (2 * k) 0)).toNat * 2 ^ 4)) :: by8 (hv ((bl s).getD ((2 * k) + 1) 0)) :: by8 ((UInt8.ofNat ((hv ((bl s).getD (2 * k) 0)).toNat * 2 ^ 4)) ||| (hv ((bl s).getD ((2 * k) + 1) 0))) :: .slice (some ⟨q11, 0, none⟩) 1 1 :: .slice (some ⟨q1, 0, none⟩) (k + 1) (s.size / 2) :: List.replicate 2 un).toArray, []⟩) (by kernel_rfl) ?_
    -- region 6
    refine wl_region ?_
    refine wl_val (iN .i64 (2 * k)) (by kernel_rfl) (by kernel_rfl) ?_
    refine wl_val (iN .i64 ((2 * k) + 2)) (by kernel_rfl) (run_add (k := .i64) (a := 2 * k) (b := 2) (by kernel_rfl) (by kernel_rfl) (by simp only [top]; omega)) ?_
    refine wl_val (iN .i64 ((2 * k) + 2)) (by kernel_rfl) (by kernel_rfl) ?_
    refine wl_nil ?_
    exact then_I ⟨fun ii => (([(2, u4 2), (3, u4 3), (6, by8 (hv ((bl s).getD (2 * k) 0))), (7, .bool true), (8, by8 (hv ((bl s).getD ((2 * k) + 1) 0))), (9, .bool true), (18, iN .i64 (2 * k)), (19, .string s), (20, iN .i64 s.size), (21, .bool true), (22, iN .i64 (2 * k)), (23, iN .i64 ((2 * k) + 2)), (24, .tuple #[by8 (hv ((bl s).getD (2 * k) 0)), .bool true]), (25, .string s), (26, iN .i64 (2 * k)), (27, by8 ((bl s).getD (2 * k) 0)), (28, .tuple #[by8 (hv ((bl s).getD (2 * k) 0)), .bool true]), (29, by8 (hv ((bl s).getD (2 * k) 0))), (30, .bool true), (31, .tuple #[by8 (hv ((bl s).getD ((2 * k) + 1) 0)), .bool true]), (32, .string s), (33, iN .i64 (2 * k)), (34, iN .i64 ((2 * k) + 1)), (35, by8 ((bl s).getD ((2 * k) + 1) 0)), (36, .tuple #[by8 (hv ((bl s).getD ((2 * k) + 1) 0)), .bool true]), (37, by8 (hv ((bl s).getD ((2 * k) + 1) 0))), (38, .bool true), (39, .bool true), (40, .bool false), (41, .bool false), (42, .bool true), (43, .bool false), (44, .bool false), (45, .slice (some ⟨q1, 0, none⟩) k (s.size / 2)), (46, by8 (hv ((bl s).getD (2 * k) 0))), (47, by8 (UInt8.ofNat ((hv ((bl s).getD (2 * k) 0)).toNat * 2 ^ 4))), (48, by8 (hv ((bl s).getD ((2 * k) + 1) 0))), (49, by8 ((UInt8.ofNat ((hv ((bl s).getD (2 * k) 0)).toNat * 2 ^ 4)) ||| (hv ((bl s).getD ((2 * k) + 1) 0)))), (50, .slice (some ⟨q11, 0, none⟩) 1 1), (51, .slice (some ⟨q1, 0, none⟩) (k + 1) (s.size / 2))] : List (Nat × Value)).find? (·.1 == ii)).elim undef (·.2), by kernel_rfl, h16⟩
  · rintro _ w17 ⟨u4, rfl, h18⟩
    refine wp_seq ?_
    refine wp_seq ?_
    -- region 5
    refine wl_region ?_
    refine wl_val (iN .i64 (2 * (s.size / 2))) (by kernel_rfl) (by kernel_rfl) ?_
    refine wl_val (.string s) (by kernel_rfl) (by kernel_rfl) ?_
    refine wl_val (iN .i64 s.size) (by kernel_rfl) (run_len (s := s) (by kernel_rfl)) ?_
    refine wl_val (.bool false) (by kernel_rfl) (run_lss (k := .i64) (a := 2 * (s.size / 2)) (b := s.size) (by kernel_rfl) (by kernel_rfl) false (decide_eq_false (by omega))) ?_
    refine wl_nil ?_
    refine then_at (F := ⟨(.string s :: un :: u4 2 :: u4 3 :: .slice (some ⟨q1, 0, none⟩) (s.size / 2) (s.size / 2) :: iN .i64 (2 * (s.size / 2)) :: u4 6 :: u4 7 :: u4 8 :: u4 9 :: .string s :: iN .i64 s.size :: iN .i64 (s.size % 2) :: .bool false :: .string s :: iN .i64 s.size :: iN .i64 (s.size / 2) :: .slice (some ⟨q1, 0, none⟩) 0 (s.size / 2) :: iN .i64 (2 * (s.size / 2)) :: .string s :: iN .i64 s.size :: .bool false :: u4 22 :: u4 23 :: u4 24 :: u4 25 :: u4 26 :: u4 27 :: u4 28 :: u4 29 :: u4 30 :: u4 31 :: u4 32 :: u4 33 :: u4 34 :: u4 35 :: u4 36 :: u4 37 :: u4 38 :: u4 39 :: u4 40 :: u4 41 :: u4 42 :: u4 43 :: u4 44 :: u4 45 :: u4 46 :: u4 47 :: u4 48 :: u4 49 :: u4 50 :: u4 51 :: List.replicate 2 un).toArray, []⟩) (by kernel_rfl) ?_
    refine wp_cond_false (by kernel_rfl) ?_
    refine wp_exit ?_
    repeat first | refine then_exit ?_ | refine block_exit ?_ | refine block_exit_ne (by decide) ?_
    refine then_at (F := ⟨(.string s :: un :: u4 2 :: u4 3 :: .slice (some ⟨q1, 0, none⟩) (s.size / 2) (s.size / 2) :: iN .i64 (2 * (s.size / 2)) :: u4 6 :: u4 7 :: u4 8 :: u4 9 :: .string s :: iN .i64 s.size :: iN .i64 (s.size % 2) :: .bool false :: .string s :: iN .i64 s.size :: iN .i64 (s.size / 2) :: .slice (some ⟨q1, 0, none⟩) 0 (s.size / 2) :: iN .i64 (2 * (s.size / 2)) :: .string s :: iN .i64 s.size :: .bool false :: u4 22 :: u4 23 :: u4 24 :: u4 25 :: u4 26 :: u4 27 :: u4 28 :: u4 29 :: u4 30 :: u4 31 :: u4 32 :: u4 33 :: u4 34 :: u4 35 :: u4 36 :: u4 37 :: u4 38 :: u4 39 :: u4 40 :: u4 41 :: u4 42 :: u4 43 :: u4 44 :: u4 45 :: u4 46 :: u4 47 :: u4 48 :: u4 49 :: u4 50 :: u4 51 :: List.replicate 2 un).toArray, []⟩) (by kernel_rfl) ?_
    refine wp_seq ?_
    -- region 12
    refine wl_region ?_
    refine wl_val (.slice (some ⟨q1, 0, none⟩) (s.size / 2) (s.size / 2)) (by kernel_rfl) (by kernel_rfl) ?_
    refine wl_val (.string (⟨((unh (bl s) (s.size / 2) ++ List.replicate (s.size / 2 - (s.size / 2)) 0).take (s.size / 2)).toArray⟩)) (by kernel_rfl) (run_textg (q := q1) (m := s.size / 2) (c := s.size / 2) (l := unh (bl s) (s.size / 2) ++ List.replicate (s.size / 2 - (s.size / 2)) 0) (by kernel_rfl) (h18.get 0 rfl) (by rw [(unb_len (bl s) (s.size / 2) (s.size / 2) (by omega))]; omega)) ?_
    refine wl_val (.string (⟨((unh (bl s) (s.size / 2) ++ List.replicate (s.size / 2 - (s.size / 2)) 0).take (s.size / 2)).toArray⟩)) (by kernel_rfl) (by kernel_rfl) ?_
    refine wl_val (.bool true) (by kernel_rfl) (by kernel_rfl) ?_
    refine wl_nil ?_
    refine then_at (F := ⟨(.string s :: un :: .string (⟨((unh (bl s) (s.size / 2) ++ List.replicate (s.size / 2 - (s.size / 2)) 0).take (s.size / 2)).toArray⟩) :: .bool true :: .slice (some ⟨q1, 0, none⟩) (s.size / 2) (s.size / 2) :: iN .i64 (2 * (s.size / 2)) :: u4 6 :: u4 7 :: u4 8 :: u4 9 :: .string s :: iN .i64 s.size :: iN .i64 (s.size % 2) :: .bool false :: .string s :: iN .i64 s.size :: iN .i64 (s.size / 2) :: .slice (some ⟨q1, 0, none⟩) 0 (s.size / 2) :: iN .i64 (2 * (s.size / 2)) :: .string s :: iN .i64 s.size :: .bool false :: u4 22 :: u4 23 :: u4 24 :: u4 25 :: u4 26 :: u4 27 :: u4 28 :: u4 29 :: u4 30 :: u4 31 :: u4 32 :: u4 33 :: u4 34 :: u4 35 :: u4 36 :: u4 37 :: u4 38 :: u4 39 :: u4 40 :: u4 41 :: u4 42 :: u4 43 :: u4 44 :: u4 45 :: u4 46 :: u4 47 :: u4 48 :: u4 49 :: u4 50 :: u4 51 :: .slice (some ⟨q1, 0, none⟩) (s.size / 2) (s.size / 2) :: .string (⟨((unh (bl s) (s.size / 2) ++ List.replicate (s.size / 2 - (s.size / 2)) 0).take (s.size / 2)).toArray⟩) :: List.replicate 0 un).toArray, []⟩) (by kernel_rfl) ?_
    refine wp_ret ?_
    repeat first | refine then_ret ?_ | refine block_ret ?_
    exact bodyPost_ret (v := .tuple #[.string (⟨((unh (bl s) (s.size / 2) ++ List.replicate (s.size / 2 - (s.size / 2)) 0).take (s.size / 2)).toArray⟩), .bool true]) (by kernel_rfl) rfl ⟨by rw [un_end]; rfl, h18.old⟩
end Go.Proofs.Ythljhhhjdajfhaa
