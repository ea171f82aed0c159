/-
  Same, half, beside.
-/
import Derived.Test.YtpaendmdcdeemaaDoorCuI
namespace Go.Proofs.YtpaendmdcdeemaaDoor
open Go.RowKit Num


set_option linter.unusedVariables false in
set_option maxRecDepth 100000 in
set_option maxHeartbeats 2000000 in
theorem psame_yes (a b c d : Nat) (ha : a < P) (hb : b < P) (hc : c < P) (hd : d < P) (h1 : a = c) (h2 : b = d) (w : World) :
    Calls Tryd.prog 22 #[.agg (pr a b), .agg (pr c d)] w fun e w' => e = .returned (.bool true) ∧ Below w.heap.size w w' := by
  have H0 := HA.start w
  go_enter Tryd.func22, Tryd.ntmps22
  refine wp_seq ?_
  -- region 0
  refine wl_region ?_
  refine wl_make H0 27 (by kernel_rfl) (run_box27 (c := pr a b) (by kernel_rfl)) ?_
  intro q1 w2 h3
  refine wl_make h3 27 (by kernel_rfl) (run_box27 (c := pr c d) (by kernel_rfl)) ?_
  intro q4 w5 h6
  refine wl_val (.bool false) (by kernel_rfl) (by kernel_rfl) ?_
  refine wl_nil ?_
  refine then_at (F := ⟨(.agg (pr a b) :: .agg (pr c d) :: pt q1 :: pt q4 :: .bool false :: List.replicate 12 un).toArray, []⟩) (by kernel_rfl) ?_
  refine wp_seq ?_
  -- region 1
  refine wl_region ?_
  refine wl_val (.pointer (some ⟨q1, 0, none⟩)) (by kernel_rfl) (by kernel_rfl) ?_
  refine wl_val (arr a) (by kernel_rfl) (run_part (q := q1) (off := 4 * 0) (n := a) (by kernel_rfl) (h6.get 1 rfl) (fun i hi => pr_get0 a b i hi)) ?_
  refine wl_val (.pointer (some ⟨q4, 0, none⟩)) (by kernel_rfl) (by kernel_rfl) ?_
  refine wl_val (arr c) (by kernel_rfl) (run_part (q := q4) (off := 4 * 0) (n := c) (by kernel_rfl) (h6.get 0 rfl) (fun i hi => pr_get0 c d i hi)) ?_
  refine wl_call (v := .bool true) h6 (by kernel_rfl) enter40 #[arr a, arr c] (by kernel_rfl) (Same_yes a c ha hc h1 w5) ?_
  intro w7 h8
  refine wl_val (.bool true) (by kernel_rfl) (by kernel_rfl) ?_
  refine wl_val (.pointer (some ⟨q1, 4, none⟩)) (by kernel_rfl) (by kernel_rfl) ?_
  refine wl_val (arr b) (by kernel_rfl) (run_part (q := q1) (off := 4 * 1) (n := b) (by kernel_rfl) (h8.get 1 rfl) (fun i _ => pr_get1 a b i)) ?_
  refine wl_val (.pointer (some ⟨q4, 4, none⟩)) (by kernel_rfl) (by kernel_rfl) ?_
  refine wl_val (arr d) (by kernel_rfl) (run_part (q := q4) (off := 4 * 1) (n := d) (by kernel_rfl) (h8.get 0 rfl) (fun i _ => pr_get1 c d i)) ?_
  refine wl_call (v := .bool true) h8 (by kernel_rfl) enter40 #[arr b, arr d] (by kernel_rfl) (Same_yes b d hb hd h2 w7) ?_
  intro w9 h10
  refine wl_val (.bool true) (by kernel_rfl) (by kernel_rfl) ?_
  refine wl_val (.bool true) (by kernel_rfl) (by kernel_rfl) ?_
  refine wl_nil ?_
  refine then_at (F := ⟨(.agg (pr a b) :: .agg (pr c d) :: pt q1 :: pt q4 :: .bool true :: pt q1 :: arr a :: pt q4 :: arr c :: .bool true :: .bool true :: .pointer (some ⟨q1, 4, none⟩) :: arr b :: .pointer (some ⟨q4, 4, none⟩) :: arr d :: .bool true :: .bool true :: List.replicate 0 un).toArray, []⟩) (by kernel_rfl) ?_
  refine wp_ret ?_
  repeat first | refine then_ret ?_ | refine block_ret ?_
  exact bodyPost_ret (v := .bool true) (by kernel_rfl) rfl ⟨rfl, h10.old⟩

set_option linter.unusedVariables false in
set_option maxRecDepth 100000 in
set_option maxHeartbeats 2000000 in
theorem psame_no1 (a b c d : Nat) (ha : a < P) (hb : b < P) (hc : c < P) (hd : d < P) (h1 : a ≠ c) (w : World) :
    Calls Tryd.prog 22 #[.agg (pr a b), .agg (pr c d)] w fun e w' => e = .returned (.bool false) ∧ Below w.heap.size w w' := by
  have H0 := HA.start w
  go_enter Tryd.func22, Tryd.ntmps22
  refine wp_seq ?_
  -- region 0
  refine wl_region ?_
  refine wl_make H0 27 (by kernel_rfl) (run_box27 (c := pr a b) (by kernel_rfl)) ?_
  intro q1 w2 h3
  refine wl_make h3 27 (by kernel_rfl) (run_box27 (c := pr c d) (by kernel_rfl)) ?_
  intro q4 w5 h6
  refine wl_val (.bool false) (by kernel_rfl) (by kernel_rfl) ?_
  refine wl_nil ?_
  refine then_at (F := ⟨(.agg (pr a b) :: .agg (pr c d) :: pt q1 :: pt q4 :: .bool false :: List.replicate 12 un).toArray, []⟩) (by kernel_rfl) ?_
  refine wp_seq ?_
  -- region 1
  refine wl_region ?_
  refine wl_val (.pointer (some ⟨q1, 0, none⟩)) (by kernel_rfl) (by kernel_rfl) ?_
  refine wl_val (arr a) (by kernel_rfl) (run_part (q := q1) (off := 4 * 0) (n := a) (by kernel_rfl) (h6.get 1 rfl) (fun i hi => pr_get0 a b i hi)) ?_
  refine wl_val (.pointer (some ⟨q4, 0, none⟩)) (by kernel_rfl) (by kernel_rfl) ?_
  refine wl_val (arr c) (by kernel_rfl) (run_part (q := q4) (off := 4 * 0) (n := c) (by kernel_rfl) (h6.get 0 rfl) (fun i hi => pr_get0 c d i hi)) ?_
  refine wl_call (v := .bool false) h6 (by kernel_rfl) enter40 #[arr a, arr c] (by kernel_rfl) (Same_no a c ha hc h1 w5) ?_
  intro w7 h8
  refine wl_val (.bool false) (by kernel_rfl) (by kernel_rfl) ?_
  refine wl_skip (by kernel_rfl) ?_
  refine wl_skip (by kernel_rfl) ?_
  refine wl_skip (by kernel_rfl) ?_
  refine wl_skip (by kernel_rfl) ?_
  refine wl_skip (by kernel_rfl) ?_
  refine wl_val (.bool false) (by kernel_rfl) (by kernel_rfl) ?_
  refine wl_val (.bool false) (by kernel_rfl) (by kernel_rfl) ?_
  refine wl_nil ?_
  refine then_at (F := ⟨(.agg (pr a b) :: .agg (pr c d) :: pt q1 :: pt q4 :: .bool false :: pt q1 :: arr a :: pt q4 :: arr c :: .bool false :: .bool false :: un :: un :: un :: un :: un :: .bool false :: List.replicate 0 un).toArray, []⟩) (by kernel_rfl) ?_
  refine wp_ret ?_
  repeat first | refine then_ret ?_ | refine block_ret ?_
  exact bodyPost_ret (v := .bool false) (by kernel_rfl) rfl ⟨rfl, h8.old⟩

set_option linter.unusedVariables false in
set_option maxRecDepth 100000 in
set_option maxHeartbeats 2000000 in
theorem psame_no2 (a b c d : Nat) (ha : a < P) (hb : b < P) (hc : c < P) (hd : d < P) (h1 : a = c) (h2 : b ≠ d) (w : World) :
    Calls Tryd.prog 22 #[.agg (pr a b), .agg (pr c d)] w fun e w' => e = .returned (.bool false) ∧ Below w.heap.size w w' := by
  have H0 := HA.start w
  go_enter Tryd.func22, Tryd.ntmps22
  refine wp_seq ?_
  -- region 0
  refine wl_region ?_
  refine wl_make H0 27 (by kernel_rfl) (run_box27 (c := pr a b) (by kernel_rfl)) ?_
  intro q1 w2 h3
  refine wl_make h3 27 (by kernel_rfl) (run_box27 (c := pr c d) (by kernel_rfl)) ?_
  intro q4 w5 h6
  refine wl_val (.bool false) (by kernel_rfl) (by kernel_rfl) ?_
  refine wl_nil ?_
  refine then_at (F := ⟨(.agg (pr a b) :: .agg (pr c d) :: pt q1 :: pt q4 :: .bool false :: List.replicate 12 un).toArray, []⟩) (by kernel_rfl) ?_
  refine wp_seq ?_
  -- region 1
  refine wl_region ?_
  refine wl_val (.pointer (some ⟨q1, 0, none⟩)) (by kernel_rfl) (by kernel_rfl) ?_
  refine wl_val (arr a) (by kernel_rfl) (run_part (q := q1) (off := 4 * 0) (n := a) (by kernel_rfl) (h6.get 1 rfl) (fun i hi => pr_get0 a b i hi)) ?_
  refine wl_val (.pointer (some ⟨q4, 0, none⟩)) (by kernel_rfl) (by kernel_rfl) ?_
  refine wl_val (arr c) (by kernel_rfl) (run_part (q := q4) (off := 4 * 0) (n := c) (by kernel_rfl) (h6.get 0 rfl) (fun i hi => pr_get0 c d i hi)) ?_
  refine wl_call (v := .bool true) h6 (by kernel_rfl) enter40 #[arr a, arr c] (by kernel_rfl) (Same_yes a c ha hc h1 w5) ?_
  intro w7 h8
  refine wl_val (.bool true) (by kernel_rfl) (by kernel_rfl) ?_
  refine wl_val (.pointer (some ⟨q1, 4, none⟩)) (by kernel_rfl) (by kernel_rfl) ?_
  refine wl_val (arr b) (by kernel_rfl) (run_part (q := q1) (off := 4 * 1) (n := b) (by kernel_rfl) (h8.get 1 rfl) (fun i _ => pr_get1 a b i)) ?_
  refine wl_val (.pointer (some ⟨q4, 4, none⟩)) (by kernel_rfl) (by kernel_rfl) ?_
  refine wl_val (arr d) (by kernel_rfl) (run_part (q := q4) (off := 4 * 1) (n := d) (by kernel_rfl) (h8.get 0 rfl) (fun i _ => pr_get1 c d i)) ?_
  refine wl_call (v := .bool false) h8 (by kernel_rfl) enter40 #[arr b, arr d] (by kernel_rfl) (Same_no b d hb hd h2 w7) ?_
  intro w9 h10
  refine wl_val (.bool false) (by kernel_rfl) (by kernel_rfl) ?_
  refine wl_val (.bool false) (by kernel_rfl) (by kernel_rfl) ?_
  refine wl_nil ?_
  refine then_at (F := ⟨(.agg (pr a b) :: .agg (pr c d) :: pt q1 :: pt q4 :: .bool false :: pt q1 :: arr a :: pt q4 :: arr c :: .bool true :: .bool true :: .pointer (some ⟨q1, 4, none⟩) :: arr b :: .pointer (some ⟨q4, 4, none⟩) :: arr d :: .bool false :: .bool false :: List.replicate 0 un).toArray, []⟩) (by kernel_rfl) ?_
  refine wp_ret ?_
  repeat first | refine then_ret ?_ | refine block_ret ?_
  exact bodyPost_ret (v := .bool false) (by kernel_rfl) rfl ⟨rfl, h10.old⟩

theorem run_geq {ρ : Operand → Value} {x y : Operand} {w : World} {dst : Option Tmp} {T T2 ty : TypeId} {pos : String} {aft : Array Edge} {gd : Option (Nat × Bool)} {P : Program} {k : IntKind} {a b : Nat} (hx : ρ x = iN k a) (hy : ρ y = iN k b) (t : Bool) (ht : decide (b ≤ a) = t) :
    (execOp ρ ⟨dst, .binOp .geq T x y T2, ty, pos, aft, gd⟩).run P w = .ok (.value (.bool t)) w :=
  run_geq0 (k := k) (a := (a : Int)) (b := (b : Int)) hx hy t (by rw [← ht]; exact decide_eq_decide.2 Int.ofNat_le)
theorem Root_yes (a : Nat) {n : Nat} (ha : a < P) (h : rootP a = some n) (w : World) (V : Vars w) : Calls Tryd.prog 82 #[arr a] w fun e w' => e = .returned (.tuple #[arr n, .bool true]) ∧ Below w.heap.size w w' := by
  have h1 := Root_any a ha w V
  rw [h] at h1
  exact h1
theorem Root_no (a : Nat) (ha : a < P) (h : rootP a = none) (w : World) (V : Vars w) : Calls Tryd.prog 82 #[arr a] w fun e w' => e = .returned (.tuple #[arr 0, .bool false]) ∧ Below w.heap.size w w' := by
  have h1 := Root_any a ha w V
  rw [h] at h1
  exact h1
def halfN (n : Nat) : Nat := if 97 ≤ n then n - 97 + 10 else n - 48

set_option linter.unusedVariables false in
set_option maxRecDepth 100000 in
set_option maxHeartbeats 2000000 in
theorem half_up (n : Nat) (hn : n < 128) (h : 97 ≤ n) (w : World) :
    Calls Tryd.prog 71 #[iN .u8 n] w fun e w' => e = .returned (iN .u8 (n - 97 + 10)) ∧ Below w.heap.size w w' := by
  have H0 := HA.start w
  go_enter Tryd.func71, Tryd.ntmps71
  refine wp_seq ?_
  -- region 0
  refine wl_region ?_
  refine wl_val (iN .u8 0) (by kernel_rfl) (by kernel_rfl) ?_
  refine wl_nil ?_
  refine then_at (F := ⟨(iN .u8 n :: un :: iN .u8 0 :: List.replicate 7 un).toArray, []⟩) (by kernel_rfl) ?_
  refine wp_seq ?_
  refine wp_seq ?_
  -- region 1
  refine wl_region ?_
  refine wl_val (iN .u8 n) (by kernel_rfl) (by kernel_rfl) ?_
  refine wl_val (.bool true) (by kernel_rfl) (run_geq (k := .u8) (a := n) (b := 97) (by kernel_rfl) (by kernel_rfl) true (decide_eq_true h)) ?_
  refine wl_nil ?_
  refine then_at (F := ⟨(iN .u8 n :: un :: iN .u8 0 :: iN .u8 n :: .bool true :: List.replicate 5 un).toArray, []⟩) (by kernel_rfl) ?_
  refine wp_cond_true (by kernel_rfl) ?_
  refine wp_seq ?_
  -- region 2
  refine wl_region ?_
  refine wl_val (iN .u8 n) (by kernel_rfl) (by kernel_rfl) ?_
  refine wl_val (iN .u8 (n - 97)) (by kernel_rfl) (run_sub (k := .u8) (a := n) (b := 97) (by kernel_rfl) (by kernel_rfl) (by omega) (by simp only [top]; omega)) ?_
  refine wl_val (iN .u8 ((n - 97) + 10)) (by kernel_rfl) (run_add (k := .u8) (a := n - 97) (b := 10) (by kernel_rfl) (by kernel_rfl) (by simp only [top]; omega)) ?_
  refine wl_val (iN .u8 ((n - 97) + 10)) (by kernel_rfl) (by kernel_rfl) ?_
  refine wl_nil ?_
  refine then_at (F := ⟨(iN .u8 n :: un :: iN .u8 ((n - 97) + 10) :: iN .u8 n :: .bool true :: iN .u8 n :: iN .u8 (n - 97) :: iN .u8 ((n - 97) + 10) :: List.replicate 2 un).toArray, []⟩) (by kernel_rfl) ?_
  refine wp_ret ?_
  repeat first | refine then_ret ?_ | refine block_ret ?_
  exact bodyPost_ret (v := iN .u8 (n - 97 + 10)) (by kernel_rfl) rfl ⟨rfl, H0.old⟩

set_option linter.unusedVariables false in
set_option maxRecDepth 100000 in
set_option maxHeartbeats 2000000 in
theorem half_dn (n : Nat) (hn : n < 128) (h : ¬ 97 ≤ n) (h0 : 48 ≤ n) (w : World) :
    Calls Tryd.prog 71 #[iN .u8 n] w fun e w' => e = .returned (iN .u8 (n - 48)) ∧ Below w.heap.size w w' := by
  have H0 := HA.start w
  go_enter Tryd.func71, Tryd.ntmps71
  refine wp_seq ?_
  -- region 0
  refine wl_region ?_
  refine wl_val (iN .u8 0) (by kernel_rfl) (by kernel_rfl) ?_
  refine wl_nil ?_
  refine then_at (F := ⟨(iN .u8 n :: un :: iN .u8 0 :: List.replicate 7 un).toArray, []⟩) (by kernel_rfl) ?_
  refine wp_seq ?_
  refine wp_seq ?_
  -- region 1
  refine wl_region ?_
  refine wl_val (iN .u8 n) (by kernel_rfl) (by kernel_rfl) ?_
  refine wl_val (.bool false) (by kernel_rfl) (run_geq (k := .u8) (a := n) (b := 97) (by kernel_rfl) (by kernel_rfl) false (decide_eq_false h)) ?_
  refine wl_nil ?_
  refine then_at (F := ⟨(iN .u8 n :: un :: iN .u8 0 :: iN .u8 n :: .bool false :: List.replicate 5 un).toArray, []⟩) (by kernel_rfl) ?_
  refine wp_cond_false (by kernel_rfl) ?_
  refine wp_skip ?_
  refine then_at (F := ⟨(iN .u8 n :: un :: iN .u8 0 :: iN .u8 n :: .bool false :: List.replicate 5 un).toArray, []⟩) (by kernel_rfl) ?_
  refine wp_seq ?_
  -- region 3
  refine wl_region ?_
  refine wl_val (iN .u8 n) (by kernel_rfl) (by kernel_rfl) ?_
  refine wl_val (iN .u8 (n - 48)) (by kernel_rfl) (run_sub (k := .u8) (a := n) (b := 48) (by kernel_rfl) (by kernel_rfl) (by omega) (by simp only [top]; omega)) ?_
  refine wl_val (iN .u8 (n - 48)) (by kernel_rfl) (by kernel_rfl) ?_
  refine wl_nil ?_
  refine then_at (F := ⟨(iN .u8 n :: un :: iN .u8 (n - 48) :: iN .u8 n :: .bool false :: un :: un :: un :: iN .u8 n :: iN .u8 (n - 48) :: List.replicate 0 un).toArray, []⟩) (by kernel_rfl) ?_
  refine wp_ret ?_
  repeat first | refine then_ret ?_ | refine block_ret ?_
  exact bodyPost_ret (v := iN .u8 (n - 48)) (by kernel_rfl) rfl ⟨rfl, H0.old⟩

/-- the square of the x beside y -/
def bsq (y : Nat) : Nat := mulP (mulP (subP (mulP y y) 1) 121666) (invE (subP 121666 (mulP (mulP y y) 121665)))
theorem bsq_lt (y : Nat) : bsq y < P := mulP_lt _ _

set_option linter.unusedVariables false in
set_option maxRecDepth 100000 in
set_option maxHeartbeats 2000000 in
theorem beside_yes (y : Nat) (hy : y < P) (rt : Nat) (hr : rt < P) (hroot : rootP (bsq y) = some rt) (w : World) (VV : Vars w) :
    Calls Tryd.prog 39 #[arr y] w fun e w' => e = .returned (.tuple #[arr rt, .bool true]) ∧ Below w.heap.size w w' := by
  have H0 := HA.start w
  go_enter Tryd.func39, Tryd.ntmps39
  refine wp_seq ?_
  -- region 0
  refine wl_region ?_
  refine wl_make H0 25 (by kernel_rfl) (run_box25 (c := el y) (by kernel_rfl)) ?_
  intro q1 w2 h3
  refine wl_make h3 25 (by kernel_rfl) run_alloc25 ?_
  intro q4 w5 h6
  refine wl_val (.bool false) (by kernel_rfl) (by kernel_rfl) ?_
  refine wl_nil ?_
  refine then_at (F := ⟨(arr y :: pt q1 :: pt q4 :: .bool false :: List.replicate 22 un).toArray, []⟩) (by kernel_rfl) ?_
  refine wp_seq ?_
  -- region 1
  refine wl_region ?_
  refine wl_load h6 1 rfl (by kernel_rfl) (by kernel_rfl) Tryd.underlying25 rfl (info_el _) ?_
  refine wl_call (v := arr (mulP y y)) h6 (by kernel_rfl) enter78 #[arr y] (by kernel_rfl) (squared_any y hy w5 (VV.below h6.old VV.big)) ?_
  intro w7 h8
  refine wl_make h8 25 (by kernel_rfl) run_alloc25 ?_
  intro q9 w10 h11
  refine wl_fill (c' := el (mulP y y)) h11 0 rfl (by kernel_rfl) (by kernel_rfl) (by kernel_rfl) (el_sz _ _) (info_el _) (one_el _) ?_
  intro w12 (h13 : HA w [(q9, 25, el (mulP y y)), (q4, 25, el 0), (q1, 25, el y)] w12)
  refine wl_nil ?_
  refine then_at (F := ⟨(arr y :: pt q1 :: pt q4 :: .bool false :: pt q9 :: un :: un :: arr y :: arr (mulP y y) :: List.replicate 17 un).toArray, []⟩) (by kernel_rfl) ?_
  refine wp_seq ?_
  -- region 2
  obtain ⟨B14, eB14⟩ : ∃ B, B = w12.heap.size := ⟨_, rfl⟩
  refine wp_region_ghost (fun g : Nat → Nat => (⟨(arr y :: pt q1 :: pt q4 :: .bool false :: pt q9 :: pt (g 5) :: un :: arr y :: arr (mulP y y) :: arr (mulP y y) :: arr 1 :: arr (subP (mulP y y) 1) :: arr 121666 :: arr (mulP (subP (mulP y y) 1) 121666) :: List.replicate 12 un).toArray, []⟩ : Act)) (GS w [(q9, 25, el (mulP y y)), (q4, 25, el 0), (q1, 25, el y)] B14 1 5 6 25 (el 0) (fun _ => el (mulP (subP (mulP y y) 1) 121666))) [arr (mulP y y), arr 1, arr (subP (mulP y y) 1), arr 121666, arr (mulP (subP (mulP y y) 1) 121666), .pointer (some ⟨0, 0, none⟩), undef] (by kernel_rfl) (by kernel_rfl) (by kernel_rfl) (by kernel_rfl) (fun _ _ _ _ h => h) (fun d hd => GS.start h13.drew eB14 (by decide) (fun _ _ => (el_sz _ _)) (fun j hj => hd j (Nat.lt_of_lt_of_le hj (by decide)))) ?_ ?_
  · refine AllGhost.cons (ghost_load 0 rfl (by decide) (fun _ => by kernel_rfl) (fun _ => by kernel_rfl) (fun _ => by kernel_rfl) Tryd.underlying25 rfl (info_el _)) ?_
    refine AllGhost.cons (ghost_call (v := arr 1) (by decide) (fun _ => by kernel_rfl) (fun _ => by kernel_rfl) enter41 #[iN .u32 1] (fun _ => by kernel_rfl) (fun w' h' => Small_any 1 (by decide) w')) ?_
    refine AllGhost.cons (ghost_call (v := arr (subP (mulP y y) 1)) (by decide) (fun _ => by kernel_rfl) (fun _ => by kernel_rfl) enter79 #[arr (mulP y y), arr 1] (fun _ => by kernel_rfl) (fun w' h' => Sub_any (mulP y y) 1 (mulP_lt _ _) (by decide) w' (VV.below h'.old VV.big))) ?_
    refine AllGhost.cons (ghost_call (v := arr 121666) (by decide) (fun _ => by kernel_rfl) (fun _ => by kernel_rfl) enter41 #[iN .u32 121666] (fun _ => by kernel_rfl) (fun w' h' => Small_any 121666 (by decide) w')) ?_
    refine AllGhost.cons (ghost_call (v := arr (mulP (subP (mulP y y) 1) 121666)) (by decide) (fun _ => by kernel_rfl) (fun _ => by kernel_rfl) enter80 #[arr (subP (mulP y y) 1), arr 121666] (fun _ => by kernel_rfl) (fun w' h' => Mul_any (subP (mulP y y) 1) 121666 (subP_lt _ _) (by decide) w' (VV.below h'.old VV.big))) ?_
    refine AllGhost.cons (ghost_make 0 (by decide) rfl (fun _ => by kernel_rfl) (fun _ _ => by kernel_rfl) (fun _ _ => run_alloc25)) ?_
    refine AllGhost.cons (ghost_fill 0 (by decide) rfl (fun _ => by kernel_rfl) (fun _ => by kernel_rfl) (fun _ => by kernel_rfl) (fun _ => by kernel_rfl) (info_el _) (one_el _) (by kernel_rfl)) ?_
    exact AllGhost.nil
  intro g w15 g16
  have h17 : HA w [(g 5, 25, el (mulP (subP (mulP y y) 1) 121666)), (q9, 25, el (mulP y y)), (q4, 25, el 0), (q1, 25, el y)] w15 := g16.one
  clear g16 eB14
  generalize g 5 = q18 at h17 ⊢
  clear g
  refine then_at (F := ⟨(arr y :: pt q1 :: pt q4 :: .bool false :: pt q9 :: pt q18 :: un :: arr y :: arr (mulP y y) :: arr (mulP y y) :: arr 1 :: arr (subP (mulP y y) 1) :: arr 121666 :: arr (mulP (subP (mulP y y) 1) 121666) :: List.replicate 12 un).toArray, []⟩) (by kernel_rfl) ?_
  refine wp_seq ?_
  -- region 3
  obtain ⟨B19, eB19⟩ : ∃ B, B = w15.heap.size := ⟨_, rfl⟩
  refine wp_region_ghost (fun g : Nat → Nat => (⟨(arr y :: pt q1 :: pt q4 :: .bool false :: pt q9 :: pt q18 :: pt (g 5) :: arr y :: arr (mulP y y) :: arr (mulP y y) :: arr 1 :: arr (subP (mulP y y) 1) :: arr 121666 :: arr (mulP (subP (mulP y y) 1) 121666) :: arr 121666 :: arr (mulP y y) :: arr 121665 :: arr (mulP (mulP y y) 121665) :: arr (subP 121666 (mulP (mulP y y) 121665)) :: List.replicate 7 un).toArray, []⟩ : Act)) (GS w [(q18, 25, el (mulP (subP (mulP y y) 1) 121666)), (q9, 25, el (mulP y y)), (q4, 25, el 0), (q1, 25, el y)] B19 1 5 6 25 (el 0) (fun _ => el (subP 121666 (mulP (mulP y y) 121665)))) [arr 121666, arr (mulP y y), arr 121665, arr (mulP (mulP y y) 121665), arr (subP 121666 (mulP (mulP y y) 121665)), .pointer (some ⟨0, 0, none⟩), undef] (by kernel_rfl) (by kernel_rfl) (by kernel_rfl) (by kernel_rfl) (fun _ _ _ _ h => h) (fun d hd => GS.start h17.drew eB19 (by decide) (fun _ _ => (el_sz _ _)) (fun j hj => hd j (Nat.lt_of_lt_of_le hj (by decide)))) ?_ ?_
  · refine AllGhost.cons (ghost_call (v := arr 121666) (by decide) (fun _ => by kernel_rfl) (fun _ => by kernel_rfl) enter41 #[iN .u32 121666] (fun _ => by kernel_rfl) (fun w' h' => Small_any 121666 (by decide) w')) ?_
    refine AllGhost.cons (ghost_load 1 rfl (by decide) (fun _ => by kernel_rfl) (fun _ => by kernel_rfl) (fun _ => by kernel_rfl) Tryd.underlying25 rfl (info_el _)) ?_
    refine AllGhost.cons (ghost_call (v := arr 121665) (by decide) (fun _ => by kernel_rfl) (fun _ => by kernel_rfl) enter41 #[iN .u32 121665] (fun _ => by kernel_rfl) (fun w' h' => Small_any 121665 (by decide) w')) ?_
    refine AllGhost.cons (ghost_call (v := arr (mulP (mulP y y) 121665)) (by decide) (fun _ => by kernel_rfl) (fun _ => by kernel_rfl) enter80 #[arr (mulP y y), arr 121665] (fun _ => by kernel_rfl) (fun w' h' => Mul_any (mulP y y) 121665 (mulP_lt _ _) (by decide) w' (VV.below h'.old VV.big))) ?_
    refine AllGhost.cons (ghost_call (v := arr (subP 121666 (mulP (mulP y y) 121665))) (by decide) (fun _ => by kernel_rfl) (fun _ => by kernel_rfl) enter79 #[arr 121666, arr (mulP (mulP y y) 121665)] (fun _ => by kernel_rfl) (fun w' h' => Sub_any 121666 (mulP (mulP y y) 121665) (by decide) (mulP_lt _ _) w' (VV.below h'.old VV.big))) ?_
    refine AllGhost.cons (ghost_make 0 (by decide) rfl (fun _ => by kernel_rfl) (fun _ _ => by kernel_rfl) (fun _ _ => run_alloc25)) ?_
    refine AllGhost.cons (ghost_fill 0 (by decide) rfl (fun _ => by kernel_rfl) (fun _ => by kernel_rfl) (fun _ => by kernel_rfl) (fun _ => by kernel_rfl) (info_el _) (one_el _) (by kernel_rfl)) ?_
    exact AllGhost.nil
  intro g w20 g21
  have h22 : HA w [(g 5, 25, el (subP 121666 (mulP (mulP y y) 121665))), (q18, 25, el (mulP (subP (mulP y y) 1) 121666)), (q9, 25, el (mulP y y)), (q4, 25, el 0), (q1, 25, el y)] w20 := g21.one
  clear g21 eB19
  generalize g 5 = q23 at h22 ⊢
  clear g
  refine then_at (F := ⟨(arr y :: pt q1 :: pt q4 :: .bool false :: pt q9 :: pt q18 :: pt q23 :: arr y :: arr (mulP y y) :: arr (mulP y y) :: arr 1 :: arr (subP (mulP y y) 1) :: arr 121666 :: arr (mulP (subP (mulP y y) 1) 121666) :: arr 121666 :: arr (mulP y y) :: arr 121665 :: arr (mulP (mulP y y) 121665) :: arr (subP 121666 (mulP (mulP y y) 121665)) :: List.replicate 7 un).toArray, []⟩) (by kernel_rfl) ?_
  refine wp_seq ?_
  -- region 4
  refine wp_region_ghost (fun _ : Nat → Nat => (⟨(arr y :: pt q1 :: pt q4 :: .bool true :: pt q9 :: pt q18 :: pt q23 :: arr y :: arr (mulP y y) :: arr (mulP y y) :: arr 1 :: arr (subP (mulP y y) 1) :: arr 121666 :: arr (mulP (subP (mulP y y) 1) 121666) :: arr 121666 :: arr (mulP y y) :: arr 121665 :: arr (mulP (mulP y y) 121665) :: arr (subP 121666 (mulP (mulP y y) 121665)) :: arr (mulP (subP (mulP y y) 1) 121666) :: arr (subP 121666 (mulP (mulP y y) 121665)) :: arr (invE (subP 121666 (mulP (mulP y y) 121665))) :: arr (mulP (mulP (subP (mulP y y) 1) 121666) (invE (subP 121666 (mulP (mulP y y) 121665)))) :: .tuple #[arr rt, .bool true] :: arr rt :: .bool true :: List.replicate 0 un).toArray, []⟩ : Act)) (GF w [(q23, 25, el (subP 121666 (mulP (mulP y y) 121665))), (q18, 25, el (mulP (subP (mulP y y) 1) 121666)), (q9, 25, el (mulP y y)), (q4, 25, el 0), (q1, 25, el y)] 7 5 3 q4 25 (el rt)) [arr (mulP (subP (mulP y y) 1) 121666), arr (subP 121666 (mulP (mulP y y) 121665)), arr (invE (subP 121666 (mulP (mulP y y) 121665))), arr (mulP (mulP (subP (mulP y y) 1) 121666) (invE (subP 121666 (mulP (mulP y y) 121665)))), .tuple #[arr rt, .bool true], arr rt, .bool true, undef, .bool true] (by kernel_rfl) (by kernel_rfl) (by kernel_rfl) (by kernel_rfl) (fun _ _ _ _ h => h) (fun d hd => GF.start h22.drew (hd 7 (by decide))) ?_ ?_
  · refine AllGhost.cons (gf_load2 1 (by decide) rfl (by decide) (fun _ => by kernel_rfl) (fun _ => by kernel_rfl) (fun _ => by kernel_rfl) Tryd.underlying25 rfl (info_el _)) ?_
    refine AllGhost.cons (gf_load2 0 (by decide) rfl (by decide) (fun _ => by kernel_rfl) (fun _ => by kernel_rfl) (fun _ => by kernel_rfl) Tryd.underlying25 rfl (info_el _)) ?_
    refine AllGhost.cons (gf_callh (v := arr (invE (subP 121666 (mulP (mulP y y) 121665)))) (by decide) (fun _ => by kernel_rfl) (fun _ => by kernel_rfl) enter81 #[arr (subP 121666 (mulP (mulP y y) 121665))] (fun _ => by kernel_rfl) (fun w' ho => Inv_any (subP 121666 (mulP (mulP y y) 121665)) (subP_lt _ _) w' (VV.below ho VV.big))) ?_
    refine AllGhost.cons (gf_callh (v := arr (mulP (mulP (subP (mulP y y) 1) 121666) (invE (subP 121666 (mulP (mulP y y) 121665))))) (by decide) (fun _ => by kernel_rfl) (fun _ => by kernel_rfl) enter80 #[arr (mulP (subP (mulP y y) 1) 121666), arr (invE (subP 121666 (mulP (mulP y y) 121665)))] (fun _ => by kernel_rfl) (fun w' ho => Mul_any (mulP (subP (mulP y y) 1) 121666) (invE (subP 121666 (mulP (mulP y y) 121665))) (mulP_lt _ _) (invE_lt _) w' (VV.below ho VV.big))) ?_
    refine AllGhost.cons (gf_callh (v := .tuple #[arr rt, .bool true]) (by decide) (fun _ => by kernel_rfl) (fun _ => by kernel_rfl) enter82 #[arr (mulP (mulP (subP (mulP y y) 1) 121666) (invE (subP 121666 (mulP (mulP y y) 121665))))] (fun _ => by kernel_rfl) (fun w' ho => Root_yes (bsq y) (bsq_lt y) hroot w' (VV.below ho VV.big))) ?_
    refine AllGhost.cons (gf_plain (v := arr rt) (by decide) (fun _ => by kernel_rfl) (fun _ => by kernel_rfl) (fun _ _ => (by kernel_rfl))) ?_
    refine AllGhost.cons (gf_plain (v := .bool true) (by decide) (fun _ => by kernel_rfl) (fun _ => by kernel_rfl) (fun _ _ => (by kernel_rfl))) ?_
    refine AllGhost.cons (gf_fill rfl (el_sz _ _) (fun _ => by kernel_rfl) (fun _ => by kernel_rfl) (fun _ => by kernel_rfl) (fun _ => by kernel_rfl) (info_el _) (one_el _) (by decide) (by kernel_rfl)) ?_
    refine AllGhost.cons (gf_plain (v := .bool true) (by decide) (fun _ => by kernel_rfl) (fun _ => by kernel_rfl) (fun _ _ => (by kernel_rfl))) ?_
    exact AllGhost.nil
  intro _ w24 g25
  have h26 : HA w [(q23, 25, el (subP 121666 (mulP (mulP y y) 121665))), (q18, 25, el (mulP (subP (mulP y y) 1) 121666)), (q9, 25, el (mulP y y)), (q4, 25, el rt), (q1, 25, el y)] w24 := g25.held
  clear g25
  refine then_at (F := ⟨(arr y :: pt q1 :: pt q4 :: .bool true :: pt q9 :: pt q18 :: pt q23 :: arr y :: arr (mulP y y) :: arr (mulP y y) :: arr 1 :: arr (subP (mulP y y) 1) :: arr 121666 :: arr (mulP (subP (mulP y y) 1) 121666) :: arr 121666 :: arr (mulP y y) :: arr 121665 :: arr (mulP (mulP y y) 121665) :: arr (subP 121666 (mulP (mulP y y) 121665)) :: arr (mulP (subP (mulP y y) 1) 121666) :: arr (subP 121666 (mulP (mulP y y) 121665)) :: arr (invE (subP 121666 (mulP (mulP y y) 121665))) :: arr (mulP (mulP (subP (mulP y y) 1) 121666) (invE (subP 121666 (mulP (mulP y y) 121665)))) :: .tuple #[arr rt, .bool true] :: arr rt :: .bool true :: List.replicate 0 un).toArray, []⟩) (by kernel_rfl) ?_
  refine wp_ret ?_
  repeat first | refine then_ret ?_ | refine block_ret ?_
  exact bodyPost_ret (v := .tuple #[arr rt, .bool true]) (res_cell_tmp (p := 2) (r := 3) (by kernel_rfl) (by kernel_rfl) (by kernel_rfl) (h26.get 3 rfl) Tryd.underlying25 rfl (info_el _)) rfl ⟨rfl, h26.old⟩

set_option linter.unusedVariables false in
set_option maxRecDepth 100000 in
set_option maxHeartbeats 2000000 in
theorem beside_no (y : Nat) (hy : y < P) (hroot : rootP (bsq y) = none) (w : World) (VV : Vars w) :
    Calls Tryd.prog 39 #[arr y] w fun e w' => e = .returned (.tuple #[arr 0, .bool false]) ∧ Below w.heap.size w w' := by
  have H0 := HA.start w
  go_enter Tryd.func39, Tryd.ntmps39
  refine wp_seq ?_
  -- region 0
  refine wl_region ?_
  refine wl_make H0 25 (by kernel_rfl) (run_box25 (c := el y) (by kernel_rfl)) ?_
  intro q1 w2 h3
  refine wl_make h3 25 (by kernel_rfl) run_alloc25 ?_
  intro q4 w5 h6
  refine wl_val (.bool false) (by kernel_rfl) (by kernel_rfl) ?_
  refine wl_nil ?_
  refine then_at (F := ⟨(arr y :: pt q1 :: pt q4 :: .bool false :: List.replicate 22 un).toArray, []⟩) (by kernel_rfl) ?_
  refine wp_seq ?_
  -- region 1
  refine wl_region ?_
  refine wl_load h6 1 rfl (by kernel_rfl) (by kernel_rfl) Tryd.underlying25 rfl (info_el _) ?_
  refine wl_call (v := arr (mulP y y)) h6 (by kernel_rfl) enter78 #[arr y] (by kernel_rfl) (squared_any y hy w5 (VV.below h6.old VV.big)) ?_
  intro w7 h8
  refine wl_make h8 25 (by kernel_rfl) run_alloc25 ?_
  intro q9 w10 h11
  refine wl_fill (c' := el (mulP y y)) h11 0 rfl (by kernel_rfl) (by kernel_rfl) (by kernel_rfl) (el_sz _ _) (info_el _) (one_el _) ?_
  intro w12 (h13 : HA w [(q9, 25, el (mulP y y)), (q4, 25, el 0), (q1, 25, el y)] w12)
  refine wl_nil ?_
  refine then_at (F := ⟨(arr y :: pt q1 :: pt q4 :: .bool false :: pt q9 :: un :: un :: arr y :: arr (mulP y y) :: List.replicate 17 un).toArray, []⟩) (by kernel_rfl) ?_
  refine wp_seq ?_
  -- region 2
  obtain ⟨B14, eB14⟩ : ∃ B, B = w12.heap.size := ⟨_, rfl⟩
  refine wp_region_ghost (fun g : Nat → Nat => (⟨(arr y :: pt q1 :: pt q4 :: .bool false :: pt q9 :: pt (g 5) :: un :: arr y :: arr (mulP y y) :: arr (mulP y y) :: arr 1 :: arr (subP (mulP y y) 1) :: arr 121666 :: arr (mulP (subP (mulP y y) 1) 121666) :: List.replicate 12 un).toArray, []⟩ : Act)) (GS w [(q9, 25, el (mulP y y)), (q4, 25, el 0), (q1, 25, el y)] B14 1 5 6 25 (el 0) (fun _ => el (mulP (subP (mulP y y) 1) 121666))) [arr (mulP y y), arr 1, arr (subP (mulP y y) 1), arr 121666, arr (mulP (subP (mulP y y) 1) 121666), .pointer (some ⟨0, 0, none⟩), undef] (by kernel_rfl) (by kernel_rfl) (by kernel_rfl) (by kernel_rfl) (fun _ _ _ _ h => h) (fun d hd => GS.start h13.drew eB14 (by decide) (fun _ _ => (el_sz _ _)) (fun j hj => hd j (Nat.lt_of_lt_of_le hj (by decide)))) ?_ ?_
  · refine AllGhost.cons (ghost_load 0 rfl (by decide) (fun _ => by kernel_rfl) (fun _ => by kernel_rfl) (fun _ => by kernel_rfl) Tryd.underlying25 rfl (info_el _)) ?_
    refine AllGhost.cons (ghost_call (v := arr 1) (by decide) (fun _ => by kernel_rfl) (fun _ => by kernel_rfl) enter41 #[iN .u32 1] (fun _ => by kernel_rfl) (fun w' h' => Small_any 1 (by decide) w')) ?_
    refine AllGhost.cons (ghost_call (v := arr (subP (mulP y y) 1)) (by decide) (fun _ => by kernel_rfl) (fun _ => by kernel_rfl) enter79 #[arr (mulP y y), arr 1] (fun _ => by kernel_rfl) (fun w' h' => Sub_any (mulP y y) 1 (mulP_lt _ _) (by decide) w' (VV.below h'.old VV.big))) ?_
    refine AllGhost.cons (ghost_call (v := arr 121666) (by decide) (fun _ => by kernel_rfl) (fun _ => by kernel_rfl) enter41 #[iN .u32 121666] (fun _ => by kernel_rfl) (fun w' h' => Small_any 121666 (by decide) w')) ?_
    refine AllGhost.cons (ghost_call (v := arr (mulP (subP (mulP y y) 1) 121666)) (by decide) (fun _ => by kernel_rfl) (fun _ => by kernel_rfl) enter80 #[arr (subP (mulP y y) 1), arr 121666] (fun _ => by kernel_rfl) (fun w' h' => Mul_any (subP (mulP y y) 1) 121666 (subP_lt _ _) (by decide) w' (VV.below h'.old VV.big))) ?_
    refine AllGhost.cons (ghost_make 0 (by decide) rfl (fun _ => by kernel_rfl) (fun _ _ => by kernel_rfl) (fun _ _ => run_alloc25)) ?_
    refine AllGhost.cons (ghost_fill 0 (by decide) rfl (fun _ => by kernel_rfl) (fun _ => by kernel_rfl) (fun _ => by kernel_rfl) (fun _ => by kernel_rfl) (info_el _) (one_el _) (by kernel_rfl)) ?_
    exact AllGhost.nil
  intro g w15 g16
  have h17 : HA w [(g 5, 25, el (mulP (subP (mulP y y) 1) 121666)), (q9, 25, el (mulP y y)), (q4, 25, el 0), (q1, 25, el y)] w15 := g16.one
  clear g16 eB14
  generalize g 5 = q18 at h17 ⊢
  clear g
  refine then_at (F := ⟨(arr y :: pt q1 :: pt q4 :: .bool false :: pt q9 :: pt q18 :: un :: arr y :: arr (mulP y y) :: arr (mulP y y) :: arr 1 :: arr (subP (mulP y y) 1) :: arr 121666 :: arr (mulP (subP (mulP y y) 1) 121666) :: List.replicate 12 un).toArray, []⟩) (by kernel_rfl) ?_
  refine wp_seq ?_
  -- region 3
  obtain ⟨B19, eB19⟩ : ∃ B, B = w15.heap.size := ⟨_, rfl⟩
  refine wp_region_ghost (fun g : Nat → Nat => (⟨(arr y :: pt q1 :: pt q4 :: .bool false :: pt q9 :: pt q18 :: pt (g 5) :: arr y :: arr (mulP y y) :: arr (mulP y y) :: arr 1 :: arr (subP (mulP y y) 1) :: arr 121666 :: arr (mulP (subP (mulP y y) 1) 121666) :: arr 121666 :: arr (mulP y y) :: arr 121665 :: arr (mulP (mulP y y) 121665) :: arr (subP 121666 (mulP (mulP y y) 121665)) :: List.replicate 7 un).toArray, []⟩ : Act)) (GS w [(q18, 25, el (mulP (subP (mulP y y) 1) 121666)), (q9, 25, el (mulP y y)), (q4, 25, el 0), (q1, 25, el y)] B19 1 5 6 25 (el 0) (fun _ => el (subP 121666 (mulP (mulP y y) 121665)))) [arr 121666, arr (mulP y y), arr 121665, arr (mulP (mulP y y) 121665), arr (subP 121666 (mulP (mulP y y) 121665)), .pointer (some ⟨0, 0, none⟩), undef] (by kernel_rfl) (by kernel_rfl) (by kernel_rfl) (by kernel_rfl) (fun _ _ _ _ h => h) (fun d hd => GS.start h17.drew eB19 (by decide) (fun _ _ => (el_sz _ _)) (fun j hj => hd j (Nat.lt_of_lt_of_le hj (by decide)))) ?_ ?_
  · refine AllGhost.cons (ghost_call (v := arr 121666) (by decide) (fun _ => by kernel_rfl) (fun _ => by kernel_rfl) enter41 #[iN .u32 121666] (fun _ => by kernel_rfl) (fun w' h' => Small_any 121666 (by decide) w')) ?_
    refine AllGhost.cons (ghost_load 1 rfl (by decide) (fun _ => by kernel_rfl) (fun _ => by kernel_rfl) (fun _ => by kernel_rfl) Tryd.underlying25 rfl (info_el _)) ?_
    refine AllGhost.cons (ghost_call (v := arr 121665) (by decide) (fun _ => by kernel_rfl) (fun _ => by kernel_rfl) enter41 #[iN .u32 121665] (fun _ => by kernel_rfl) (fun w' h' => Small_any 121665 (by decide) w')) ?_
    refine AllGhost.cons (ghost_call (v := arr (mulP (mulP y y) 121665)) (by decide) (fun _ => by kernel_rfl) (fun _ => by kernel_rfl) enter80 #[arr (mulP y y), arr 121665] (fun _ => by kernel_rfl) (fun w' h' => Mul_any (mulP y y) 121665 (mulP_lt _ _) (by decide) w' (VV.below h'.old VV.big))) ?_
    refine AllGhost.cons (ghost_call (v := arr (subP 121666 (mulP (mulP y y) 121665))) (by decide) (fun _ => by kernel_rfl) (fun _ => by kernel_rfl) enter79 #[arr 121666, arr (mulP (mulP y y) 121665)] (fun _ => by kernel_rfl) (fun w' h' => Sub_any 121666 (mulP (mulP y y) 121665) (by decide) (mulP_lt _ _) w' (VV.below h'.old VV.big))) ?_
    refine AllGhost.cons (ghost_make 0 (by decide) rfl (fun _ => by kernel_rfl) (fun _ _ => by kernel_rfl) (fun _ _ => run_alloc25)) ?_
    refine AllGhost.cons (ghost_fill 0 (by decide) rfl (fun _ => by kernel_rfl) (fun _ => by kernel_rfl) (fun _ => by kernel_rfl) (fun _ => by kernel_rfl) (info_el _) (one_el _) (by kernel_rfl)) ?_
    exact AllGhost.nil
  intro g w20 g21
  have h22 : HA w [(g 5, 25, el (subP 121666 (mulP (mulP y y) 121665))), (q18, 25, el (mulP (subP (mulP y y) 1) 121666)), (q9, 25, el (mulP y y)), (q4, 25, el 0), (q1, 25, el y)] w20 := g21.one
  clear g21 eB19
  generalize g 5 = q23 at h22 ⊢
  clear g
  refine then_at (F := ⟨(arr y :: pt q1 :: pt q4 :: .bool false :: pt q9 :: pt q18 :: pt q23 :: arr y :: arr (mulP y y) :: arr (mulP y y) :: arr 1 :: arr (subP (mulP y y) 1) :: arr 121666 :: arr (mulP (subP (mulP y y) 1) 121666) :: arr 121666 :: arr (mulP y y) :: arr 121665 :: arr (mulP (mulP y y) 121665) :: arr (subP 121666 (mulP (mulP y y) 121665)) :: List.replicate 7 un).toArray, []⟩) (by kernel_rfl) ?_
  refine wp_seq ?_
  -- region 4
  refine wp_region_ghost (fun _ : Nat → Nat => (⟨(arr y :: pt q1 :: pt q4 :: .bool false :: pt q9 :: pt q18 :: pt q23 :: arr y :: arr (mulP y y) :: arr (mulP y y) :: arr 1 :: arr (subP (mulP y y) 1) :: arr 121666 :: arr (mulP (subP (mulP y y) 1) 121666) :: arr 121666 :: arr (mulP y y) :: arr 121665 :: arr (mulP (mulP y y) 121665) :: arr (subP 121666 (mulP (mulP y y) 121665)) :: arr (mulP (subP (mulP y y) 1) 121666) :: arr (subP 121666 (mulP (mulP y y) 121665)) :: arr (invE (subP 121666 (mulP (mulP y y) 121665))) :: arr (mulP (mulP (subP (mulP y y) 1) 121666) (invE (subP 121666 (mulP (mulP y y) 121665)))) :: .tuple #[arr 0, .bool false] :: arr 0 :: .bool false :: List.replicate 0 un).toArray, []⟩ : Act)) (GF w [(q23, 25, el (subP 121666 (mulP (mulP y y) 121665))), (q18, 25, el (mulP (subP (mulP y y) 1) 121666)), (q9, 25, el (mulP y y)), (q4, 25, el 0), (q1, 25, el y)] 7 5 3 q4 25 (el 0)) [arr (mulP (subP (mulP y y) 1) 121666), arr (subP 121666 (mulP (mulP y y) 121665)), arr (invE (subP 121666 (mulP (mulP y y) 121665))), arr (mulP (mulP (subP (mulP y y) 1) 121666) (invE (subP 121666 (mulP (mulP y y) 121665)))), .tuple #[arr 0, .bool false], arr 0, .bool false, undef, .bool false] (by kernel_rfl) (by kernel_rfl) (by kernel_rfl) (by kernel_rfl) (fun _ _ _ _ h => h) (fun d hd => GF.start h22.drew (hd 7 (by decide))) ?_ ?_
  · refine AllGhost.cons (gf_load2 1 (by decide) rfl (by decide) (fun _ => by kernel_rfl) (fun _ => by kernel_rfl) (fun _ => by kernel_rfl) Tryd.underlying25 rfl (info_el _)) ?_
    refine AllGhost.cons (gf_load2 0 (by decide) rfl (by decide) (fun _ => by kernel_rfl) (fun _ => by kernel_rfl) (fun _ => by kernel_rfl) Tryd.underlying25 rfl (info_el _)) ?_
    refine AllGhost.cons (gf_callh (v := arr (invE (subP 121666 (mulP (mulP y y) 121665)))) (by decide) (fun _ => by kernel_rfl) (fun _ => by kernel_rfl) enter81 #[arr (subP 121666 (mulP (mulP y y) 121665))] (fun _ => by kernel_rfl) (fun w' ho => Inv_any (subP 121666 (mulP (mulP y y) 121665)) (subP_lt _ _) w' (VV.below ho VV.big))) ?_
    refine AllGhost.cons (gf_callh (v := arr (mulP (mulP (subP (mulP y y) 1) 121666) (invE (subP 121666 (mulP (mulP y y) 121665))))) (by decide) (fun _ => by kernel_rfl) (fun _ => by kernel_rfl) enter80 #[arr (mulP (subP (mulP y y) 1) 121666), arr (invE (subP 121666 (mulP (mulP y y) 121665)))] (fun _ => by kernel_rfl) (fun w' ho => Mul_any (mulP (subP (mulP y y) 1) 121666) (invE (subP 121666 (mulP (mulP y y) 121665))) (mulP_lt _ _) (invE_lt _) w' (VV.below ho VV.big))) ?_
    refine AllGhost.cons (gf_callh (v := .tuple #[arr 0, .bool false]) (by decide) (fun _ => by kernel_rfl) (fun _ => by kernel_rfl) enter82 #[arr (mulP (mulP (subP (mulP y y) 1) 121666) (invE (subP 121666 (mulP (mulP y y) 121665))))] (fun _ => by kernel_rfl) (fun w' ho => Root_no (bsq y) (bsq_lt y) hroot w' (VV.below ho VV.big))) ?_
    refine AllGhost.cons (gf_plain (v := arr 0) (by decide) (fun _ => by kernel_rfl) (fun _ => by kernel_rfl) (fun _ _ => (by kernel_rfl))) ?_
    refine AllGhost.cons (gf_plain (v := .bool false) (by decide) (fun _ => by kernel_rfl) (fun _ => by kernel_rfl) (fun _ _ => (by kernel_rfl))) ?_
    refine AllGhost.cons (gf_fill rfl (el_sz _ _) (fun _ => by kernel_rfl) (fun _ => by kernel_rfl) (fun _ => by kernel_rfl) (fun _ => by kernel_rfl) (info_el _) (one_el _) (by decide) (by kernel_rfl)) ?_
    refine AllGhost.cons (gf_plain (v := .bool false) (by decide) (fun _ => by kernel_rfl) (fun _ => by kernel_rfl) (fun _ _ => (by kernel_rfl))) ?_
    exact AllGhost.nil
  intro _ w24 g25
  have h26 : HA w [(q23, 25, el (subP 121666 (mulP (mulP y y) 121665))), (q18, 25, el (mulP (subP (mulP y y) 1) 121666)), (q9, 25, el (mulP y y)), (q4, 25, el 0), (q1, 25, el y)] w24 := g25.held
  clear g25
  refine then_at (F := ⟨(arr y :: pt q1 :: pt q4 :: .bool false :: pt q9 :: pt q18 :: pt q23 :: arr y :: arr (mulP y y) :: arr (mulP y y) :: arr 1 :: arr (subP (mulP y y) 1) :: arr 121666 :: arr (mulP (subP (mulP y y) 1) 121666) :: arr 121666 :: arr (mulP y y) :: arr 121665 :: arr (mulP (mulP y y) 121665) :: arr (subP 121666 (mulP (mulP y y) 121665)) :: arr (mulP (subP (mulP y y) 1) 121666) :: arr (subP 121666 (mulP (mulP y y) 121665)) :: arr (invE (subP 121666 (mulP (mulP y y) 121665))) :: arr (mulP (mulP (subP (mulP y y) 1) 121666) (invE (subP 121666 (mulP (mulP y y) 121665)))) :: .tuple #[arr 0, .bool false] :: arr 0 :: .bool false :: List.replicate 0 un).toArray, []⟩) (by kernel_rfl) ?_
  refine wp_ret ?_
  repeat first | refine then_ret ?_ | refine block_ret ?_
  exact bodyPost_ret (v := .tuple #[arr 0, .bool false]) (res_cell_tmp (p := 2) (r := 3) (by kernel_rfl) (by kernel_rfl) (by kernel_rfl) (h26.get 3 rfl) Tryd.underlying25 rfl (info_el _)) rfl ⟨rfl, h26.old⟩
end Go.Proofs.YtpaendmdcdeemaaDoor

namespace Go.Proofs.YtpaendmdcdeemaaDoor
open Go.RowKit Num


def bX : Nat := 15112221349535400772501151409588531511454012693041857206046113283949847762202
def bY : Nat := 46316835694926478169428394003475163141307993866256225615783033603165251855960
theorem bX_lt : bX < P := by decide
theorem bY_lt : bY < P := by decide
theorem bX_of : ofP { data := #[26, 213, 37, 143, 96, 45, 86, 201, 178, 167, 37, 149, 96, 199, 44, 105, 92, 220, 214, 253, 49, 226, 164, 192, 254, 83, 110, 205, 211, 54, 105, 33] } = some bX := by decide +kernel
theorem bY_of : ofP { data := #[88, 102, 102, 102, 102, 102, 102, 102, 102, 102, 102, 102, 102, 102, 102, 102, 102, 102, 102, 102, 102, 102, 102, 102, 102, 102, 102, 102, 102, 102, 102, 102] } = some bY := by decide +kernel

set_option linter.unusedVariables false in
set_option maxRecDepth 100000 in
set_option maxHeartbeats 2000000 in
theorem Base_any (w : World) (VV : Vars w) :
    Calls Tryd.prog 32 #[] w fun e w' => e = .returned (.agg (pr bX (subP bY 1))) ∧ Below w.heap.size w w' := by
  have H0 := HA.start w
  go_enter Tryd.func32, Tryd.ntmps32
  refine wp_seq ?_
  -- region 0
  refine wl_region ?_
  refine wl_make H0 27 (by kernel_rfl) run_alloc27 ?_
  intro q1 w2 h3
  refine wl_nil ?_
  refine then_at (F := ⟨(pt q1 :: List.replicate 15 un).toArray, []⟩) (by kernel_rfl) ?_
  refine wp_seq ?_
  -- region 1
  refine wl_region ?_
  refine wl_call (v := .tuple #[arr bX, .bool true]) h3 (by kernel_rfl) enter38 #[.string { data := #[26, 213, 37, 143, 96, 45, 86, 201, 178, 167, 37, 149, 96, 199, 44, 105, 92, 220, 214, 253, 49, 226, 164, 192, 254, 83, 110, 205, 211, 54, 105, 33] }] (by kernel_rfl) (Of_yes _ bX_of w2 (VV.below h3.old VV.big)) ?_
  intro w4 h5
  refine wl_val (.tuple #[arr bX, .bool true]) (by kernel_rfl) (by kernel_rfl) ?_
  refine wl_val (arr bX) (by kernel_rfl) (by kernel_rfl) ?_
  refine wl_val (.bool true) (by kernel_rfl) (by kernel_rfl) ?_
  refine wl_make h5 25 (by kernel_rfl) run_alloc25 ?_
  intro q6 w7 h8
  refine wl_fill (c' := el bX) h8 0 rfl (by kernel_rfl) (by kernel_rfl) (by kernel_rfl) (el_sz _ _) (info_el _) (one_el _) ?_
  intro w9 (h10 : HA w [(q6, 25, el bX), (q1, 27, pr 0 0)] w9)
  refine wl_val (.bool true) (by kernel_rfl) (by kernel_rfl) ?_
  refine wl_nil ?_
  refine then_at (F := ⟨(pt q1 :: pt q6 :: .bool true :: un :: un :: .tuple #[arr bX, .bool true] :: .tuple #[arr bX, .bool true] :: arr bX :: .bool true :: List.replicate 7 un).toArray, []⟩) (by kernel_rfl) ?_
  refine wp_seq ?_
  -- region 2
  refine wl_region ?_
  refine wl_call (v := .tuple #[arr bY, .bool true]) h10 (by kernel_rfl) enter38 #[.string { data := #[88, 102, 102, 102, 102, 102, 102, 102, 102, 102, 102, 102, 102, 102, 102, 102, 102, 102, 102, 102, 102, 102, 102, 102, 102, 102, 102, 102, 102, 102, 102, 102] }] (by kernel_rfl) (Of_yes _ bY_of w9 (VV.below h10.old VV.big)) ?_
  intro w11 h12
  refine wl_val (.tuple #[arr bY, .bool true]) (by kernel_rfl) (by kernel_rfl) ?_
  refine wl_val (arr bY) (by kernel_rfl) (by kernel_rfl) ?_
  refine wl_val (.bool true) (by kernel_rfl) (by kernel_rfl) ?_
  refine wl_make h12 25 (by kernel_rfl) run_alloc25 ?_
  intro q13 w14 h15
  refine wl_fill (c' := el bY) h15 0 rfl (by kernel_rfl) (by kernel_rfl) (by kernel_rfl) (el_sz _ _) (info_el _) (one_el _) ?_
  intro w16 (h17 : HA w [(q13, 25, el bY), (q6, 25, el bX), (q1, 27, pr 0 0)] w16)
  refine wl_val (.bool true) (by kernel_rfl) (by kernel_rfl) ?_
  refine wl_nil ?_
  refine then_at (F := ⟨(pt q1 :: pt q6 :: .bool true :: pt q13 :: .bool true :: .tuple #[arr bX, .bool true] :: .tuple #[arr bX, .bool true] :: arr bX :: .bool true :: .tuple #[arr bY, .bool true] :: .tuple #[arr bY, .bool true] :: arr bY :: .bool true :: List.replicate 3 un).toArray, []⟩) (by kernel_rfl) ?_
  refine wp_seq ?_
  -- region 3
  refine wl_region ?_
  refine wl_load h17 1 rfl (by kernel_rfl) (by kernel_rfl) Tryd.underlying25 rfl (info_el _) ?_
  refine wl_load h17 0 rfl (by kernel_rfl) (by kernel_rfl) Tryd.underlying25 rfl (info_el _) ?_
  refine wl_call (v := .agg (pr bX (subP bY 1))) h17 (by kernel_rfl) enter43 #[arr bX, arr bY] (by kernel_rfl) (at_any bX bY bX_lt bY_lt w16 (VV.below h17.old VV.big)) ?_
  intro w18 h19
  refine wl_fill (c' := pr bX (subP bY 1)) h19 2 rfl (by kernel_rfl) (by kernel_rfl) (by kernel_rfl) (pr_sz bX (subP bY 1) 0 0) (info27p bX (subP bY 1)) (one_pr bX (subP bY 1)) ?_
  intro w20 (h21 : HA w [(q13, 25, el bY), (q6, 25, el bX), (q1, 27, pr bX (subP bY 1))] w20)
  refine wl_nil ?_
  refine then_at (F := ⟨(pt q1 :: pt q6 :: .bool true :: pt q13 :: .bool true :: .tuple #[arr bX, .bool true] :: .tuple #[arr bX, .bool true] :: arr bX :: .bool true :: .tuple #[arr bY, .bool true] :: .tuple #[arr bY, .bool true] :: arr bY :: .bool true :: arr bX :: arr bY :: .agg (pr bX (subP bY 1)) :: List.replicate 0 un).toArray, []⟩) (by kernel_rfl) ?_
  refine wp_ret ?_
  repeat first | refine then_ret ?_ | refine block_ret ?_
  exact bodyPost_ret (v := .agg (pr bX (subP bY 1))) (res_cell (p := 0) (by kernel_rfl) (by kernel_rfl) (h21.get 2 rfl) Tryd.underlying27 rfl (info27p bX (subP bY 1))) rfl ⟨rfl, h21.old⟩
end Go.Proofs.YtpaendmdcdeemaaDoor

namespace Go.Proofs.YtpaendmdcdeemaaDoor
open Go.RowKit Num


theorem or128_lt (u : UInt8) : u.toNat ||| 128 < 256 := Nat.or_lt_two_pow (n := 8) (UInt8.toNat_lt u) (by decide)
/-- a point's text: that of y, and whether x is odd -/
def oddS (y : Nat) : ByteArray := ⟨((bl (bytesOf y)).set 31 (UInt8.ofNat (((bl (bytesOf y)).getD 31 0).toNat ||| 128))).toArray⟩

set_option linter.unusedVariables false in
set_option maxRecDepth 100000 in
set_option maxHeartbeats 2000000 in
theorem PBytes_odd (x r : Nat) (hx : x < P) (hr : r < P) (hodd : x % 2 = 1) (w : World) (VV : Vars w) :
    Calls Tryd.prog 14 #[.agg (pr x r)] w fun e w' => e = .returned (.string (oddS (addP r 1))) ∧ Below w.heap.size w w' := by
  have hls : ∀ {i : Nat}, i < 32 → i < (bl (bytesOf (addP r 1))).length := fun h => by rw [bl_len, bytesOf_size]; exact h
  have H0 := HA.start w
  go_enter Tryd.func14, Tryd.ntmps14
  refine wp_seq ?_
  -- region 0
  refine wl_region ?_
  refine wl_make H0 27 (by kernel_rfl) (run_box27 (c := pr x r) (by kernel_rfl)) ?_
  intro q1 w2 h3
  refine wl_val (.string { data := #[] }) (by kernel_rfl) (by kernel_rfl) ?_
  refine wl_nil ?_
  refine then_at (F := ⟨(.agg (pr x r) :: pt q1 :: .string { data := #[] } :: List.replicate 15 un).toArray, []⟩) (by kernel_rfl) ?_
  refine wp_seq ?_
  -- region 1
  refine wl_region ?_
  refine wl_load h3 0 rfl (by kernel_rfl) (by kernel_rfl) Tryd.underlying27 rfl (info27p x r) ?_
  refine wl_call (v := arr (addP r 1)) h3 (by kernel_rfl) enter47 #[.agg (pr x r)] (by kernel_rfl) (y_any x r hr w2 (VV.below h3.old VV.big)) ?_
  intro w4 h5
  refine wl_call (v := .string (bytesOf (addP r 1))) h5 (by kernel_rfl) enter48 #[arr (addP r 1)] (by kernel_rfl) (Bytes_any (addP r 1) w4) ?_
  intro w6 h7
  refine wl_bytes (s := (bytesOf (addP r 1))) h7 (by kernel_rfl) (by kernel_rfl) ?_
  intro q8 cp9 m10 w11 h12
  refine wl_val (.slice (some ⟨q8, 0, none⟩) (bytesOf (addP r 1)).size cp9) (by kernel_rfl) (by kernel_rfl) ?_
  refine wl_nil ?_
  refine then_at (F := ⟨(.agg (pr x r) :: pt q1 :: .string { data := #[] } :: .slice (some ⟨q8, 0, none⟩) (bytesOf (addP r 1)).size cp9 :: .agg (pr x r) :: arr (addP r 1) :: .string (bytesOf (addP r 1)) :: .slice (some ⟨q8, 0, none⟩) (bytesOf (addP r 1)).size cp9 :: List.replicate 10 un).toArray, []⟩) (by kernel_rfl) ?_
  refine wp_seq ?_
  refine wp_seq ?_
  -- region 2
  refine wl_region ?_
  refine wl_val (.pointer (some ⟨q1, 0, none⟩)) (by kernel_rfl) (by kernel_rfl) ?_
  refine wl_val (arr x) (by kernel_rfl) (run_part (q := q1) (off := 4 * 0) (n := x) (by kernel_rfl) (h12.get 1 rfl) (fun i hi => pr_get0 x r i hi)) ?_
  refine wl_call (v := .bool true) h12 (by kernel_rfl) enter49 #[arr x] (by kernel_rfl) (Odd_yes x hodd w11) ?_
  intro w13 h14
  refine wl_nil ?_
  refine then_at (F := ⟨(.agg (pr x r) :: pt q1 :: .string { data := #[] } :: .slice (some ⟨q8, 0, none⟩) (bytesOf (addP r 1)).size cp9 :: .agg (pr x r) :: arr (addP r 1) :: .string (bytesOf (addP r 1)) :: .slice (some ⟨q8, 0, none⟩) (bytesOf (addP r 1)).size cp9 :: pt q1 :: arr x :: .bool true :: List.replicate 7 un).toArray, []⟩) (by kernel_rfl) ?_
  refine wp_cond_true (by kernel_rfl) ?_
  -- region 3
  refine wl_region ?_
  refine wl_val (.slice (some ⟨q8, 0, none⟩) (bytesOf (addP r 1)).size cp9) (by kernel_rfl) (by kernel_rfl) ?_
  refine wl_val (.pointer (some ⟨q8, 31, none⟩)) (by kernel_rfl) (run_addr_slice (q := q8) (n := (bytesOf (addP r 1)).size) (m := cp9) (a := 31) Tryd.underlying60 (fun w => Tryd.sizeOf5 w) (by kernel_rfl) (by kernel_rfl) (by rw [bytesOf_size]; decide)) ?_
  refine wl_val (iN .u8 (((bl ((bytesOf (addP r 1)))).getD 31 0).toNat)) (by kernel_rfl) (run_load1 (fun w => Tryd.isAgg5 w) (by kernel_rfl) (((h14.get 0 rfl).cell 31).trans (byC_get (bl ((bytesOf (addP r 1)))) m10 31 (hls (i := 31) (by decide))))) ?_
  refine wl_val (iN .u8 ((((bl ((bytesOf (addP r 1)))).getD 31 0).toNat) ||| 128)) (by kernel_rfl) (run_or8 (a := ((bl ((bytesOf (addP r 1)))).getD 31 0).toNat) (b := 128) (by kernel_rfl) (by kernel_rfl) (u8_lt _) (by decide)) ?_
  refine wl_val (.pointer (some ⟨q8, 31, none⟩)) (by kernel_rfl) (run_addr_slice (q := q8) (n := (bytesOf (addP r 1)).size) (m := cp9) (a := 31) Tryd.underlying60 (fun w => Tryd.sizeOf5 w) (by kernel_rfl) (by kernel_rfl) (by rw [bytesOf_size]; decide)) ?_
  refine wl_put (k := .u8) (z := (((((bl ((bytesOf (addP r 1)))).getD 31 0).toNat) ||| 128 : Nat) : Int)) h14 0 rfl 31 (by rw [byC_size]; exact Nat.lt_add_right _ (hls (i := 31) (by decide))) (by kernel_rfl) (fun w => Tryd.sizeOf5 w) (by kernel_rfl) (by kernel_rfl) ?_
  intro w15 h16
  have h17 : HA w [(q8, 5, byC ((bl ((bytesOf (addP r 1)))).set 31 (UInt8.ofNat ((((bl ((bytesOf (addP r 1)))).getD 31 0).toNat) ||| 128))) m10), (q1, 27, pr x r)] w15 := (by rw [← byC_put (bl ((bytesOf (addP r 1)))) m10 31 ((((bl ((bytesOf (addP r 1)))).getD 31 0).toNat) ||| 128) (hls (i := 31) (by decide)) (or128_lt _)]; exact h16)
  clear h16
  refine wl_nil ?_
  refine then_at (F := ⟨(.agg (pr x r) :: pt q1 :: .string { data := #[] } :: .slice (some ⟨q8, 0, none⟩) (bytesOf (addP r 1)).size cp9 :: .agg (pr x r) :: arr (addP r 1) :: .string (bytesOf (addP r 1)) :: .slice (some ⟨q8, 0, none⟩) (bytesOf (addP r 1)).size cp9 :: pt q1 :: arr x :: .bool true :: .slice (some ⟨q8, 0, none⟩) (bytesOf (addP r 1)).size cp9 :: .pointer (some ⟨q8, 31, none⟩) :: iN .u8 (((bl ((bytesOf (addP r 1)))).getD 31 0).toNat) :: iN .u8 ((((bl ((bytesOf (addP r 1)))).getD 31 0).toNat) ||| 128) :: .pointer (some ⟨q8, 31, none⟩) :: List.replicate 2 un).toArray, []⟩) (by kernel_rfl) ?_
  refine wp_seq ?_
  -- region 4
  refine wl_region ?_
  refine wl_val (.slice (some ⟨q8, 0, none⟩) (bytesOf (addP r 1)).size cp9) (by kernel_rfl) (by kernel_rfl) ?_
  refine wl_val (.string ⟨((bl ((bytesOf (addP r 1)))).set 31 (UInt8.ofNat ((((bl ((bytesOf (addP r 1)))).getD 31 0).toNat) ||| 128))).toArray⟩) (by kernel_rfl) (run_byText (n := (bytesOf (addP r 1)).size) (c := cp9) (m := m10) (l := (bl ((bytesOf (addP r 1)))).set 31 (UInt8.ofNat ((((bl ((bytesOf (addP r 1)))).getD 31 0).toNat) ||| 128))) (by simp [bl_len]) (by kernel_rfl) (h17.get 0 rfl)) ?_
  refine wl_val (.string ⟨((bl ((bytesOf (addP r 1)))).set 31 (UInt8.ofNat ((((bl ((bytesOf (addP r 1)))).getD 31 0).toNat) ||| 128))).toArray⟩) (by kernel_rfl) (by kernel_rfl) ?_
  refine wl_nil ?_
  refine then_at (F := ⟨(.agg (pr x r) :: pt q1 :: .string ⟨((bl ((bytesOf (addP r 1)))).set 31 (UInt8.ofNat ((((bl ((bytesOf (addP r 1)))).getD 31 0).toNat) ||| 128))).toArray⟩ :: .slice (some ⟨q8, 0, none⟩) (bytesOf (addP r 1)).size cp9 :: .agg (pr x r) :: arr (addP r 1) :: .string (bytesOf (addP r 1)) :: .slice (some ⟨q8, 0, none⟩) (bytesOf (addP r 1)).size cp9 :: pt q1 :: arr x :: .bool true :: .slice (some ⟨q8, 0, none⟩) (bytesOf (addP r 1)).size cp9 :: .pointer (some ⟨q8, 31, none⟩) :: iN .u8 (((bl ((bytesOf (addP r 1)))).getD 31 0).toNat) :: iN .u8 ((((bl ((bytesOf (addP r 1)))).getD 31 0).toNat) ||| 128) :: .pointer (some ⟨q8, 31, none⟩) :: .slice (some ⟨q8, 0, none⟩) (bytesOf (addP r 1)).size cp9 :: .string ⟨((bl ((bytesOf (addP r 1)))).set 31 (UInt8.ofNat ((((bl ((bytesOf (addP r 1)))).getD 31 0).toNat) ||| 128))).toArray⟩ :: List.replicate 0 un).toArray, []⟩) (by kernel_rfl) ?_
  refine wp_ret ?_
  repeat first | refine then_ret ?_ | refine block_ret ?_
  exact bodyPost_ret (v := .string (oddS (addP r 1))) (by kernel_rfl) rfl ⟨rfl, h17.old⟩

set_option linter.unusedVariables false in
set_option maxRecDepth 100000 in
set_option maxHeartbeats 2000000 in
theorem PBytes_even (x r : Nat) (hx : x < P) (hr : r < P) (hodd : x % 2 = 0) (w : World) (VV : Vars w) :
    Calls Tryd.prog 14 #[.agg (pr x r)] w fun e w' => e = .returned (.string (bytesOf (addP r 1))) ∧ Below w.heap.size w w' := by
  have hls : ∀ {i : Nat}, i < 32 → i < (bl (bytesOf (addP r 1))).length := fun h => by rw [bl_len, bytesOf_size]; exact h
  have H0 := HA.start w
  go_enter Tryd.func14, Tryd.ntmps14
  refine wp_seq ?_
  -- region 0
  refine wl_region ?_
  refine wl_make H0 27 (by kernel_rfl) (run_box27 (c := pr x r) (by kernel_rfl)) ?_
  intro q1 w2 h3
  refine wl_val (.string { data := #[] }) (by kernel_rfl) (by kernel_rfl) ?_
  refine wl_nil ?_
  refine then_at (F := ⟨(.agg (pr x r) :: pt q1 :: .string { data := #[] } :: List.replicate 15 un).toArray, []⟩) (by kernel_rfl) ?_
  refine wp_seq ?_
  -- region 1
  refine wl_region ?_
  refine wl_load h3 0 rfl (by kernel_rfl) (by kernel_rfl) Tryd.underlying27 rfl (info27p x r) ?_
  refine wl_call (v := arr (addP r 1)) h3 (by kernel_rfl) enter47 #[.agg (pr x r)] (by kernel_rfl) (y_any x r hr w2 (VV.below h3.old VV.big)) ?_
  intro w4 h5
  refine wl_call (v := .string (bytesOf (addP r 1))) h5 (by kernel_rfl) enter48 #[arr (addP r 1)] (by kernel_rfl) (Bytes_any (addP r 1) w4) ?_
  intro w6 h7
  refine wl_bytes (s := (bytesOf (addP r 1))) h7 (by kernel_rfl) (by kernel_rfl) ?_
  intro q8 cp9 m10 w11 h12
  refine wl_val (.slice (some ⟨q8, 0, none⟩) (bytesOf (addP r 1)).size cp9) (by kernel_rfl) (by kernel_rfl) ?_
  refine wl_nil ?_
  refine then_at (F := ⟨(.agg (pr x r) :: pt q1 :: .string { data := #[] } :: .slice (some ⟨q8, 0, none⟩) (bytesOf (addP r 1)).size cp9 :: .agg (pr x r) :: arr (addP r 1) :: .string (bytesOf (addP r 1)) :: .slice (some ⟨q8, 0, none⟩) (bytesOf (addP r 1)).size cp9 :: List.replicate 10 un).toArray, []⟩) (by kernel_rfl) ?_
  refine wp_seq ?_
  refine wp_seq ?_
  -- region 2
  refine wl_region ?_
  refine wl_val (.pointer (some ⟨q1, 0, none⟩)) (by kernel_rfl) (by kernel_rfl) ?_
  refine wl_val (arr x) (by kernel_rfl) (run_part (q := q1) (off := 4 * 0) (n := x) (by kernel_rfl) (h12.get 1 rfl) (fun i hi => pr_get0 x r i hi)) ?_
  refine wl_call (v := .bool false) h12 (by kernel_rfl) enter49 #[arr x] (by kernel_rfl) (Odd_no x hodd w11) ?_
  intro w13 h14
  refine wl_nil ?_
  refine then_at (F := ⟨(.agg (pr x r) :: pt q1 :: .string { data := #[] } :: .slice (some ⟨q8, 0, none⟩) (bytesOf (addP r 1)).size cp9 :: .agg (pr x r) :: arr (addP r 1) :: .string (bytesOf (addP r 1)) :: .slice (some ⟨q8, 0, none⟩) (bytesOf (addP r 1)).size cp9 :: pt q1 :: arr x :: .bool false :: List.replicate 7 un).toArray, []⟩) (by kernel_rfl) ?_
  refine wp_cond_false (by kernel_rfl) ?_
  refine wp_skip ?_
  refine then_at (F := ⟨(.agg (pr x r) :: pt q1 :: .string { data := #[] } :: .slice (some ⟨q8, 0, none⟩) (bytesOf (addP r 1)).size cp9 :: .agg (pr x r) :: arr (addP r 1) :: .string (bytesOf (addP r 1)) :: .slice (some ⟨q8, 0, none⟩) (bytesOf (addP r 1)).size cp9 :: pt q1 :: arr x :: .bool false :: List.replicate 7 un).toArray, []⟩) (by kernel_rfl) ?_
  refine wp_seq ?_
  -- region 4
  refine wl_region ?_
  refine wl_val (.slice (some ⟨q8, 0, none⟩) (bytesOf (addP r 1)).size cp9) (by kernel_rfl) (by kernel_rfl) ?_
  refine wl_val (.string ⟨(bl ((bytesOf (addP r 1)))).toArray⟩) (by kernel_rfl) (run_byText (n := (bytesOf (addP r 1)).size) (c := cp9) (m := m10) (l := bl ((bytesOf (addP r 1)))) (by simp [bl_len]) (by kernel_rfl) (h14.get 0 rfl)) ?_
  refine wl_val (.string ⟨(bl ((bytesOf (addP r 1)))).toArray⟩) (by kernel_rfl) (by kernel_rfl) ?_
  refine wl_nil ?_
  refine then_at (F := ⟨(.agg (pr x r) :: pt q1 :: .string ⟨(bl ((bytesOf (addP r 1)))).toArray⟩ :: .slice (some ⟨q8, 0, none⟩) (bytesOf (addP r 1)).size cp9 :: .agg (pr x r) :: arr (addP r 1) :: .string (bytesOf (addP r 1)) :: .slice (some ⟨q8, 0, none⟩) (bytesOf (addP r 1)).size cp9 :: pt q1 :: arr x :: .bool false :: un :: un :: un :: un :: un :: .slice (some ⟨q8, 0, none⟩) (bytesOf (addP r 1)).size cp9 :: .string ⟨(bl ((bytesOf (addP r 1)))).toArray⟩ :: List.replicate 0 un).toArray, []⟩) (by kernel_rfl) ?_
  refine wp_ret ?_
  repeat first | refine then_ret ?_ | refine block_ret ?_
  exact bodyPost_ret (v := .string (bytesOf (addP r 1))) (by kernel_rfl) rfl ⟨rfl, h14.old⟩
end Go.Proofs.YtpaendmdcdeemaaDoor
