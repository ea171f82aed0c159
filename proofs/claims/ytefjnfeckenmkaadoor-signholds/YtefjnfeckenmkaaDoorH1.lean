/-
  turns, moves and the first state.
-/
import Derived.Test.YtefjnfeckenmkaaDoorH0
namespace Go.Proofs.YtefjnfeckenmkaaDoor.Hh
open Go.RowKit

set_option linter.unusedVariables false in
set_option maxRecDepth 100000 in
set_option maxHeartbeats 2000000 in
theorem rotL (x : BitVec 64) (n : Nat) (hn : n ≤ 64) (w : World) :
    Calls Tryd.prog 87 #[bv .u64 x, iN .u64 n, iN .u64 64] w fun e w' => e = .returned (bv .u64 (rotP x n)) ∧ Below w.heap.size w w' := by
  have H0 := HA.start w
  go_enter Tryd.func87, Tryd.ntmps87
  refine wp_seq ?_
  refine wl_region ?_
  refine wl_val (iN .u64 0) (by kernel_rfl) (by kernel_rfl) ?_
  refine wl_nil ?_
  refine then_at (F := ⟨(bv .u64 x :: iN .u64 n :: iN .u64 64 :: un :: un :: un :: iN .u64 0 :: List.replicate 9 un).toArray, []⟩) (by kernel_rfl) ?_
  refine wp_seq ?_
  refine wl_region ?_
  refine wl_val (bv .u64 x) (by kernel_rfl) (by kernel_rfl) ?_
  refine wl_val (iN .u64 n) (by kernel_rfl) (by kernel_rfl) ?_
  refine wl_val (bv .u64 (x >>> n)) (by kernel_rfl) (run_shrv (k2 := .u64) (m := n) WK.l (a := x) (by kernel_rfl) (by kernel_rfl)) ?_
  refine wl_val (bv .u64 x) (by kernel_rfl) (by kernel_rfl) ?_
  refine wl_val (iN .u64 64) (by kernel_rfl) (by kernel_rfl) ?_
  refine wl_val (iN .u64 n) (by kernel_rfl) (by kernel_rfl) ?_
  refine wl_val (iN .u64 (64 - n)) (by kernel_rfl) (run_sub (k := .u64) (a := 64) (b := n) (by kernel_rfl) (by kernel_rfl) (by omega) (by simp only [top]; omega)) ?_
  refine wl_val (bv .u64 (x <<< (64 - n))) (by kernel_rfl) (run_shlv (k2 := .u64) (m := 64 - n) WK.l (a := x) (by kernel_rfl) (by kernel_rfl) (by omega)) ?_
  refine wl_val (bv .u64 ((x >>> n) ||| (x <<< (64 - n)))) (by kernel_rfl) (run_orv WK.l (a := x >>> n) (b := x <<< (64 - n)) (by kernel_rfl) (by kernel_rfl)) ?_
  refine wl_val (bv .u64 ((x >>> n) ||| (x <<< (64 - n)))) (by kernel_rfl) (by kernel_rfl) ?_
  refine wl_nil ?_
  refine then_at (F := ⟨(bv .u64 x :: iN .u64 n :: iN .u64 64 :: un :: un :: un :: bv .u64 ((x >>> n) ||| (x <<< (64 - n))) :: bv .u64 x :: iN .u64 n :: bv .u64 (x >>> n) :: bv .u64 x :: iN .u64 64 :: iN .u64 n :: iN .u64 (64 - n) :: bv .u64 (x <<< (64 - n)) :: bv .u64 ((x >>> n) ||| (x <<< (64 - n))) :: List.replicate 0 un).toArray, []⟩) (by kernel_rfl) ?_
  refine wp_ret ?_
  repeat first | refine then_ret ?_ | refine block_ret ?_
  exact bodyPost_ret (v := bv .u64 (rotP x n)) (by kernel_rfl) rfl ⟨rfl, H0.old⟩

set_option linter.unusedVariables false in
set_option maxRecDepth 100000 in
set_option maxHeartbeats 2000000 in
theorem cutL (r : BitVec 64) (w : World) :
    Calls Tryd.prog 80 #[bv .u64 r, iN .u64 64] w fun e w' => e = .returned (bv .u64 (cutP 64 r)) ∧ Below w.heap.size w w' := by
  have H0 := HA.start w
  go_enter Tryd.func80, Tryd.ntmps80
  refine wp_seq ?_
  refine wl_region ?_
  refine wl_val (iN .u64 0) (by kernel_rfl) (by kernel_rfl) ?_
  refine wl_nil ?_
  refine then_at (F := ⟨(bv .u64 r :: iN .u64 64 :: un :: un :: iN .u64 0 :: List.replicate 4 un).toArray, []⟩) (by kernel_rfl) ?_
  refine wp_seq ?_
  refine wl_region ?_
  refine wl_val (bv .u64 r) (by kernel_rfl) (by kernel_rfl) ?_
  refine wl_val (iN .u64 64) (by kernel_rfl) (by kernel_rfl) ?_
  refine wl_val (iN .u64 0) (by kernel_rfl) (run_sub (k := .u64) (a := 64) (b := 64) (by kernel_rfl) (by kernel_rfl) (by decide) (by decide)) ?_
  refine wl_val (bv .u64 (r >>> 0)) (by kernel_rfl) (run_shrv (k2 := .u64) (m := 0) WK.l (a := r) (by kernel_rfl) (by kernel_rfl)) ?_
  refine wl_val (bv .u64 (r >>> 0)) (by kernel_rfl) (by kernel_rfl) ?_
  refine wl_nil ?_
  refine then_at (F := ⟨(bv .u64 r :: iN .u64 64 :: un :: un :: bv .u64 (r >>> 0) :: bv .u64 r :: iN .u64 64 :: iN .u64 0 :: bv .u64 (r >>> 0) :: List.replicate 0 un).toArray, []⟩) (by kernel_rfl) ?_
  refine wp_ret ?_
  repeat first | refine then_ret ?_ | refine block_ret ?_
  exact bodyPost_ret (v := bv .u64 (r >>> 0)) (by kernel_rfl) rfl ⟨by unfold cutP; rw [BitVec.setWidth_eq], H0.old⟩

def zHs1_0 (x : BitVec 64) (a : Nat) (b : Nat) (c : Nat) q1 (zt : List Value) := (bv .u64 x :: .agg (tc a b c) :: iN .u64 64 :: un :: pt q1 :: un :: bv .u64 (((rotP x a) ^^^ (rotP x b)) ^^^ (rotP x c)) :: bv .u64 x :: pt q1 :: iN .u64 a :: iN .u64 64 :: bv .u64 (rotP x a) :: bv .u64 x :: .pointer (some ⟨q1, 1, none⟩) :: iN .u64 b :: iN .u64 64 :: bv .u64 (rotP x b) :: bv .u64 ((rotP x a) ^^^ (rotP x b)) :: bv .u64 x :: .pointer (some ⟨q1, 2, none⟩) :: iN .u64 c :: iN .u64 64 :: bv .u64 (rotP x c) :: bv .u64 (((rotP x a) ^^^ (rotP x b)) ^^^ (rotP x c)) :: zt : List Value)
set_option linter.unusedVariables false in
set_option maxRecDepth 100000 in
set_option maxHeartbeats 2000000 in
theorem tbL (x : BitVec 64) (a b c : Nat) (ha : a ≤ 64) (hb : b ≤ 64) (hc : c ≤ 64) (w : World) :
    Calls Tryd.prog 82 #[bv .u64 x, .agg (tc a b c), iN .u64 64] w fun e w' => e = .returned (bv .u64 (turP x (a, b, c))) ∧ Below w.heap.size w w' := by
  have H0 := HA.start w
  go_enter Tryd.func82, Tryd.ntmps82
  refine wp_seq ?_
  refine wl_region ?_
  refine wl_make H0 73 (by kernel_rfl) (run_box34 (c := tc a b c) (by kernel_rfl)) ?_
  intro q1 w2 h3
  refine wl_val (iN .u64 0) (by kernel_rfl) (by kernel_rfl) ?_
  refine wl_nil ?_
  refine then_at (F := ⟨(bv .u64 x :: .agg (tc a b c) :: iN .u64 64 :: un :: pt q1 :: un :: iN .u64 0 :: List.replicate 17 un).toArray, []⟩) (by kernel_rfl) ?_
  refine wp_seq ?_
  refine wp_region_sure ⟨(zHs1_0 x a b c q1 ([])).toArray, []⟩ (HA w [(q1, 73, tc a b c)]) [bv .u64 x, .pointer (some ⟨q1, 0, none⟩), iN .u64 a, iN .u64 64, bv .u64 (rotP x a), bv .u64 x, .pointer (some ⟨q1, 1, none⟩), iN .u64 b, iN .u64 64, bv .u64 (rotP x b), bv .u64 ((rotP x a) ^^^ (rotP x b)), bv .u64 x, .pointer (some ⟨q1, 2, none⟩), iN .u64 c, iN .u64 64, bv .u64 (rotP x c), bv .u64 (((rotP x a) ^^^ (rotP x b)) ^^^ (rotP x c)), bv .u64 (((rotP x a) ^^^ (rotP x b)) ^^^ (rotP x c))] (by kernel_rfl) (by kernel_rfl) (by kernel_rfl) (by kernel_rfl) (fun _ _ _ h => h) h3.drew ?_ ?_
  · refine AllSure.cons (OpSure.take (v := bv .u64 x) (by kernel_rfl) (by kernel_rfl) (fun _ _ => (by kernel_rfl))) ?_
    refine AllSure.cons (OpSure.take (v := .pointer (some ⟨q1, 0, none⟩)) (by kernel_rfl) (by kernel_rfl) (fun _ _ => (by kernel_rfl))) ?_
    refine AllSure.cons (OpSure.take (v := iN .u64 a) (by kernel_rfl) (by kernel_rfl) (fun _ h => run_load1 (fun w => Tryd.isAgg59 w) (by kernel_rfl) (((h.get 0 rfl).cell 0).trans (by kernel_rfl)))) ?_
    refine AllSure.cons (OpSure.take (v := iN .u64 64) (by kernel_rfl) (by kernel_rfl) (fun _ _ => (by kernel_rfl))) ?_
    refine AllSure.cons (sure_call (v := bv .u64 (rotP x a)) (by kernel_rfl) (by kernel_rfl) enter38 HA.keep #[bv .u64 x, iN .u64 a, iN .u64 64] (by kernel_rfl) (fun w' h' => rotL x a (by omega) w')) ?_
    refine AllSure.cons (OpSure.take (v := bv .u64 x) (by kernel_rfl) (by kernel_rfl) (fun _ _ => (by kernel_rfl))) ?_
    refine AllSure.cons (OpSure.take (v := .pointer (some ⟨q1, 1, none⟩)) (by kernel_rfl) (by kernel_rfl) (fun _ _ => (by kernel_rfl))) ?_
    refine AllSure.cons (OpSure.take (v := iN .u64 b) (by kernel_rfl) (by kernel_rfl) (fun _ h => run_load1 (fun w => Tryd.isAgg59 w) (by kernel_rfl) (((h.get 0 rfl).cell 1).trans (by kernel_rfl)))) ?_
    refine AllSure.cons (OpSure.take (v := iN .u64 64) (by kernel_rfl) (by kernel_rfl) (fun _ _ => (by kernel_rfl))) ?_
    refine AllSure.cons (sure_call (v := bv .u64 (rotP x b)) (by kernel_rfl) (by kernel_rfl) enter38 HA.keep #[bv .u64 x, iN .u64 b, iN .u64 64] (by kernel_rfl) (fun w' h' => rotL x b (by omega) w')) ?_
    refine AllSure.cons (OpSure.take (v := bv .u64 ((rotP x a) ^^^ (rotP x b))) (by kernel_rfl) (by kernel_rfl) (fun _ _ => (run_xorv WK.l (a := rotP x a) (b := rotP x b) (by kernel_rfl) (by kernel_rfl)))) ?_
    refine AllSure.cons (OpSure.take (v := bv .u64 x) (by kernel_rfl) (by kernel_rfl) (fun _ _ => (by kernel_rfl))) ?_
    refine AllSure.cons (OpSure.take (v := .pointer (some ⟨q1, 2, none⟩)) (by kernel_rfl) (by kernel_rfl) (fun _ _ => (by kernel_rfl))) ?_
    refine AllSure.cons (OpSure.take (v := iN .u64 c) (by kernel_rfl) (by kernel_rfl) (fun _ h => run_load1 (fun w => Tryd.isAgg59 w) (by kernel_rfl) (((h.get 0 rfl).cell 2).trans (by kernel_rfl)))) ?_
    refine AllSure.cons (OpSure.take (v := iN .u64 64) (by kernel_rfl) (by kernel_rfl) (fun _ _ => (by kernel_rfl))) ?_
    refine AllSure.cons (sure_call (v := bv .u64 (rotP x c)) (by kernel_rfl) (by kernel_rfl) enter38 HA.keep #[bv .u64 x, iN .u64 c, iN .u64 64] (by kernel_rfl) (fun w' h' => rotL x c (by omega) w')) ?_
    refine AllSure.cons (OpSure.take (v := bv .u64 (((rotP x a) ^^^ (rotP x b)) ^^^ (rotP x c))) (by kernel_rfl) (by kernel_rfl) (fun _ _ => (run_xorv WK.l (a := (rotP x a) ^^^ (rotP x b)) (b := rotP x c) (by kernel_rfl) (by kernel_rfl)))) ?_
    refine AllSure.cons (OpSure.take (v := bv .u64 (((rotP x a) ^^^ (rotP x b)) ^^^ (rotP x c))) (by kernel_rfl) (by kernel_rfl) (fun _ _ => (by kernel_rfl))) ?_
    exact AllSure.nil
  intro w4 h5
  refine then_at (F := ⟨(zHs1_0 x a b c q1 ([])).toArray, []⟩) (by kernel_rfl) ?_
  refine wp_ret ?_
  repeat first | refine then_ret ?_ | refine block_ret ?_
  exact bodyPost_ret (v := bv .u64 (turP x (a, b, c))) (by kernel_rfl) rfl ⟨rfl, h5.old⟩

def zHs1_1 (x : BitVec 64) (a : Nat) (b : Nat) (c : Nat) q1 (zt : List Value) := (bv .u64 x :: .agg (tc a b c) :: iN .u64 64 :: un :: pt q1 :: un :: bv .u64 (((rotP x a) ^^^ (rotP x b)) ^^^ (x >>> c)) :: bv .u64 x :: pt q1 :: iN .u64 a :: iN .u64 64 :: bv .u64 (rotP x a) :: bv .u64 x :: .pointer (some ⟨q1, 1, none⟩) :: iN .u64 b :: iN .u64 64 :: bv .u64 (rotP x b) :: bv .u64 ((rotP x a) ^^^ (rotP x b)) :: bv .u64 x :: .pointer (some ⟨q1, 2, none⟩) :: iN .u64 c :: bv .u64 (x >>> c) :: bv .u64 (((rotP x a) ^^^ (rotP x b)) ^^^ (x >>> c)) :: zt : List Value)
set_option linter.unusedVariables false in
set_option maxRecDepth 100000 in
set_option maxHeartbeats 2000000 in
theorem mbL (x : BitVec 64) (a b c : Nat) (ha : a ≤ 64) (hb : b ≤ 64) (hc : c ≤ 64) (w : World) :
    Calls Tryd.prog 86 #[bv .u64 x, .agg (tc a b c), iN .u64 64] w fun e w' => e = .returned (bv .u64 (movP x (a, b, c))) ∧ Below w.heap.size w w' := by
  have H0 := HA.start w
  go_enter Tryd.func86, Tryd.ntmps86
  refine wp_seq ?_
  refine wl_region ?_
  refine wl_make H0 73 (by kernel_rfl) (run_box34 (c := tc a b c) (by kernel_rfl)) ?_
  intro q1 w2 h3
  refine wl_val (iN .u64 0) (by kernel_rfl) (by kernel_rfl) ?_
  refine wl_nil ?_
  refine then_at (F := ⟨(bv .u64 x :: .agg (tc a b c) :: iN .u64 64 :: un :: pt q1 :: un :: iN .u64 0 :: List.replicate 16 un).toArray, []⟩) (by kernel_rfl) ?_
  refine wp_seq ?_
  refine wp_region_sure ⟨(zHs1_1 x a b c q1 ([])).toArray, []⟩ (HA w [(q1, 73, tc a b c)]) [bv .u64 x, .pointer (some ⟨q1, 0, none⟩), iN .u64 a, iN .u64 64, bv .u64 (rotP x a), bv .u64 x, .pointer (some ⟨q1, 1, none⟩), iN .u64 b, iN .u64 64, bv .u64 (rotP x b), bv .u64 ((rotP x a) ^^^ (rotP x b)), bv .u64 x, .pointer (some ⟨q1, 2, none⟩), iN .u64 c, bv .u64 (x >>> c), bv .u64 (((rotP x a) ^^^ (rotP x b)) ^^^ (x >>> c)), bv .u64 (((rotP x a) ^^^ (rotP x b)) ^^^ (x >>> c))] (by kernel_rfl) (by kernel_rfl) (by kernel_rfl) (by kernel_rfl) (fun _ _ _ h => h) h3.drew ?_ ?_
  · refine AllSure.cons (OpSure.take (v := bv .u64 x) (by kernel_rfl) (by kernel_rfl) (fun _ _ => (by kernel_rfl))) ?_
    refine AllSure.cons (OpSure.take (v := .pointer (some ⟨q1, 0, none⟩)) (by kernel_rfl) (by kernel_rfl) (fun _ _ => (by kernel_rfl))) ?_
    refine AllSure.cons (OpSure.take (v := iN .u64 a) (by kernel_rfl) (by kernel_rfl) (fun _ h => run_load1 (fun w => Tryd.isAgg59 w) (by kernel_rfl) (((h.get 0 rfl).cell 0).trans (by kernel_rfl)))) ?_
    refine AllSure.cons (OpSure.take (v := iN .u64 64) (by kernel_rfl) (by kernel_rfl) (fun _ _ => (by kernel_rfl))) ?_
    refine AllSure.cons (sure_call (v := bv .u64 (rotP x a)) (by kernel_rfl) (by kernel_rfl) enter38 HA.keep #[bv .u64 x, iN .u64 a, iN .u64 64] (by kernel_rfl) (fun w' h' => rotL x a (by omega) w')) ?_
    refine AllSure.cons (OpSure.take (v := bv .u64 x) (by kernel_rfl) (by kernel_rfl) (fun _ _ => (by kernel_rfl))) ?_
    refine AllSure.cons (OpSure.take (v := .pointer (some ⟨q1, 1, none⟩)) (by kernel_rfl) (by kernel_rfl) (fun _ _ => (by kernel_rfl))) ?_
    refine AllSure.cons (OpSure.take (v := iN .u64 b) (by kernel_rfl) (by kernel_rfl) (fun _ h => run_load1 (fun w => Tryd.isAgg59 w) (by kernel_rfl) (((h.get 0 rfl).cell 1).trans (by kernel_rfl)))) ?_
    refine AllSure.cons (OpSure.take (v := iN .u64 64) (by kernel_rfl) (by kernel_rfl) (fun _ _ => (by kernel_rfl))) ?_
    refine AllSure.cons (sure_call (v := bv .u64 (rotP x b)) (by kernel_rfl) (by kernel_rfl) enter38 HA.keep #[bv .u64 x, iN .u64 b, iN .u64 64] (by kernel_rfl) (fun w' h' => rotL x b (by omega) w')) ?_
    refine AllSure.cons (OpSure.take (v := bv .u64 ((rotP x a) ^^^ (rotP x b))) (by kernel_rfl) (by kernel_rfl) (fun _ _ => (run_xorv WK.l (a := rotP x a) (b := rotP x b) (by kernel_rfl) (by kernel_rfl)))) ?_
    refine AllSure.cons (OpSure.take (v := bv .u64 x) (by kernel_rfl) (by kernel_rfl) (fun _ _ => (by kernel_rfl))) ?_
    refine AllSure.cons (OpSure.take (v := .pointer (some ⟨q1, 2, none⟩)) (by kernel_rfl) (by kernel_rfl) (fun _ _ => (by kernel_rfl))) ?_
    refine AllSure.cons (OpSure.take (v := iN .u64 c) (by kernel_rfl) (by kernel_rfl) (fun _ h => run_load1 (fun w => Tryd.isAgg59 w) (by kernel_rfl) (((h.get 0 rfl).cell 2).trans (by kernel_rfl)))) ?_
    refine AllSure.cons (OpSure.take (v := bv .u64 (x >>> c)) (by kernel_rfl) (by kernel_rfl) (fun _ _ => (run_shrv (k2 := .u64) (m := c) WK.l (a := x) (by kernel_rfl) (by kernel_rfl)))) ?_
    refine AllSure.cons (OpSure.take (v := bv .u64 (((rotP x a) ^^^ (rotP x b)) ^^^ (x >>> c))) (by kernel_rfl) (by kernel_rfl) (fun _ _ => (run_xorv WK.l (a := (rotP x a) ^^^ (rotP x b)) (b := x >>> c) (by kernel_rfl) (by kernel_rfl)))) ?_
    refine AllSure.cons (OpSure.take (v := bv .u64 (((rotP x a) ^^^ (rotP x b)) ^^^ (x >>> c))) (by kernel_rfl) (by kernel_rfl) (fun _ _ => (by kernel_rfl))) ?_
    exact AllSure.nil
  intro w4 h5
  refine then_at (F := ⟨(zHs1_1 x a b c q1 ([])).toArray, []⟩) (by kernel_rfl) ?_
  refine wp_ret ?_
  repeat first | refine then_ret ?_ | refine block_ret ?_
  exact bodyPost_ret (v := bv .u64 (movP x (a, b, c))) (by kernel_rfl) rfl ⟨rfl, h5.old⟩

theorem beg_stepL (k : Nat) (hk : k < 8) : (begP 64).take (k + 1) = (begP 64).take k ++ [cutP 64 (fws.getD k 0)] :=
  (by decide +kernel : ∀ k : Fin 8, (begP 64).take (k.1 + 1) = (begP 64).take k.1 ++ [cutP 64 (fws.getD k.1 0)]) ⟨k, hk⟩
theorem beg_lenL (k : Nat) (hk : k ≤ 8) : ((begP 64).take k ++ List.replicate (8 - k) 0).length = 8 := by
  rw [pad_len, List.length_take, begP_len]; omega

def zHs1_2 q1 q4 k (u7 : Nat → Value) (zx4 zx5 zx8 zx9 zx10 : Value) (zt : List Value) := (iN .u64 64 :: un :: pt q1 :: pt q4 :: zx4 :: zx5 :: .agg (wc .u64 fws) :: iN .i64 k :: zx8 :: zx9 :: zx10 :: u7 11 :: u7 12 :: u7 13 :: u7 14 :: u7 15 :: u7 16 :: un :: zt : List Value)
def zHs1_3 q1 q4 (u7 : Nat → Value) (zt : List Value) := (iN .u64 64 :: un :: pt q1 :: pt q4 :: u7 4 :: u7 5 :: .agg (wc .u64 fws) :: iN .i64 8 :: .bool false :: u7 9 :: u7 10 :: u7 11 :: u7 12 :: u7 13 :: u7 14 :: u7 15 :: u7 16 :: zt : List Value)
set_option linter.unusedVariables false in
set_option maxRecDepth 100000 in
set_option maxHeartbeats 2000000 in
theorem begL (w : World) (VV : Vars w) :
    Calls Tryd.prog 65 #[iN .u64 64] w fun e w' => e = .returned (.agg (wc .u64 (begP 64))) ∧ Below w.heap.size w w' := by
  have H0 := HA.start w
  go_enter Tryd.func65, Tryd.ntmps65
  refine wp_seq ?_
  refine wl_region ?_
  refine wl_make H0 97 (by kernel_rfl) run_alloc43 ?_
  intro q1 w2 h3
  refine wl_nil ?_
  refine then_at (F := ⟨(iN .u64 64 :: un :: pt q1 :: List.replicate 15 un).toArray, []⟩) (by kernel_rfl) ?_
  refine wp_seq ?_
  refine wl_region ?_
  refine wl_make h3 97 (by kernel_rfl) run_alloc43 ?_
  intro q4 w5 h6
  refine wl_nil ?_
  refine then_at (F := ⟨(iN .u64 64 :: un :: pt q1 :: pt q4 :: List.replicate 14 un).toArray, []⟩) (by kernel_rfl) ?_
  refine wp_seq ?_
  refine wp_seq ?_
  refine wl_region ?_
  refine wl_val (.agg (wc .u64 fws)) (by kernel_rfl) (run_load_range (q := 5) (by kernel_rfl) (VV.below h6.old VV.big).f Tryd.underlying97 rfl (info43 .u64 fws (show fws.length = 8 from rfl))) ?_
  refine wl_val (iN .i64 0) (by kernel_rfl) (by kernel_rfl) ?_
  refine wl_nil ?_
  refine then_at (F := ⟨(iN .u64 64 :: un :: pt q1 :: pt q4 :: un :: un :: .agg (wc .u64 fws) :: iN .i64 0 :: List.replicate 10 un).toArray, []⟩) (by kernel_rfl) ?_
  refine wp_block ?_
  refine wp_count (fun k A w' => ∃ u7 : Nat → Value, A = ⟨(zHs1_2 q1 q4 k u7 (u7 4) (u7 5) (u7 8) (u7 9) (u7 10) ([])).toArray, []⟩ ∧ HA w [(q4, 97, wc .u64 ((begP 64).take k ++ List.replicate (8 - k) 0)), (q1, 97, wc .u64 (List.replicate 8 (0 : BitVec 64)))] w') 8 ?_ ?_ ?_
  · exact ⟨fun ii => (([(4, undef), (5, undef), (8, undef), (9, undef), (10, undef), (11, undef), (12, undef), (13, undef), (14, undef), (15, undef), (16, undef)] : List (Nat × Value)).find? (·.1 == ii)).elim undef (·.2), by kernel_rfl, (by have h := h6; exact h)⟩
  · rintro k hk _ w8 ⟨u7, rfl, h9⟩
    refine wp_seq ?_
    refine wl_region ?_
    refine wl_val (.bool true) (by kernel_rfl) (run_lss (k := .i64) (a := k) (b := 8) (by kernel_rfl) (by kernel_rfl) true (decide_eq_true hk)) ?_
    refine wl_nil ?_
    refine then_at (F := ⟨(zHs1_2 q1 q4 k u7 (u7 4) (u7 5) (.bool true) (u7 9) (u7 10) ([])).toArray, []⟩) (by kernel_rfl) ?_
    refine wp_seq ?_
    refine wp_cond_true (by kernel_rfl) ?_
    refine wp_skip ?_
    refine then_at (F := ⟨(zHs1_2 q1 q4 k u7 (u7 4) (u7 5) (.bool true) (u7 9) (u7 10) ([])).toArray, []⟩) (by kernel_rfl) ?_
    refine wp_seq ?_
    refine wp_block ?_
    refine wp_seq ?_
    refine wl_region ?_
    refine wl_val (iN .i64 k) (by kernel_rfl) (by kernel_rfl) ?_
    refine wl_val (bv .u64 (fws.getD k 0)) (by kernel_rfl) (run_index43 (i := k) (by kernel_rfl) (by kernel_rfl) (by omega) (wc_get .u64 fws k (by rw [(show fws.length = 8 from rfl)]; omega))) ?_
    refine wl_val (iN .i64 k) (by kernel_rfl) (by kernel_rfl) ?_
    refine wl_val (bv .u64 (fws.getD k 0)) (by kernel_rfl) (by kernel_rfl) ?_
    refine wl_nil ?_
    refine then_at (F := ⟨(zHs1_2 q1 q4 k u7 (iN .i64 k) (bv .u64 (fws.getD k 0)) (.bool true) (iN .i64 k) (bv .u64 (fws.getD k 0)) ([])).toArray, []⟩) (by kernel_rfl) ?_
    refine wl_region ?_
    refine wl_val (iN .i64 k) (by kernel_rfl) (by kernel_rfl) ?_
    refine wl_val (bv .u64 (fws.getD k 0)) (by kernel_rfl) (by kernel_rfl) ?_
    refine wl_val (iN .u64 64) (by kernel_rfl) (by kernel_rfl) ?_
    refine wl_call (v := bv .u64 (cutP 64 (fws.getD k 0))) h9 (by kernel_rfl) enter32 #[bv .u64 (fws.getD k 0), iN .u64 64] (by kernel_rfl) (cutL (fws.getD k 0) w8) ?_
    intro w10 h11
    refine wl_val (.pointer (some ⟨q4, k, none⟩)) (by kernel_rfl) (run_addr_arr (q := q4) (a := k) Tryd.underlying97 (fun w => Tryd.sizeOf34 w) (by kernel_rfl) (by kernel_rfl) (by omega)) ?_
    refine wl_put (k := .u64) (z := (((cutP 64 (fws.getD k 0)).toNat : Nat) : Int)) h11 0 rfl k (by rw [wc_size, (beg_lenL k (by omega))]; omega) (by kernel_rfl) (fun w => Tryd.sizeOf34 w) (by kernel_rfl) (by kernel_rfl) ?_
    intro w12 h13
    have h14 : HA w [(q4, 97, wc .u64 ((begP 64).take (k + 1) ++ List.replicate (8 - (k + 1)) 0)), (q1, 97, wc .u64 (List.replicate 8 (0 : BitVec 64)))] w12 := by
      have e : (wc .u64 ((begP 64).take k ++ List.replicate (8 - k) 0)).setIfInBounds k (.int .u64 (((cutP 64 (fws.getD k 0)).toNat : Nat) : Int)) = wc .u64 ((begP 64).take (k + 1) ++ List.replicate (8 - (k + 1)) 0) := (by rw [beg_stepL k hk]; exact pad_put .u64 ((begP 64).take k) (8 - k) (8 - (k + 1)) k (cutP 64 (fws.getD k 0)) (by rw [List.length_take, begP_len]; omega) (by omega))
      rw [← e]; exact h13
    clear h13
    refine wl_nil ?_
    refine block_normal ?_
    refine then_at (F := ⟨(iN .u64 64 :: un :: pt q1 :: pt q4 :: iN .i64 k :: bv .u64 (fws.getD k 0) :: .agg (wc .u64 fws) :: iN .i64 k :: .bool true :: iN .i64 k :: bv .u64 (fws.getD k 0) :: iN .i64 k :: bv .u64 (fws.getD k 0) :: iN .u64 64 :: bv .u64 (cutP 64 (fws.getD k 0)) :: .pointer (some ⟨q4, k, none⟩) :: u7 16 :: List.replicate 1 un).toArray, []⟩) (by kernel_rfl) ?_
    refine wl_region ?_
    refine wl_val (iN .i64 (k + 1)) (by kernel_rfl) (run_add (k := .i64) (a := k) (b := 1) (by kernel_rfl) (by kernel_rfl) (by simp only [top]; omega)) ?_
    refine wl_val (iN .i64 (k + 1)) (by kernel_rfl) (by kernel_rfl) ?_
    refine wl_nil ?_
    exact then_I ⟨fun ii => (([(4, iN .i64 k), (5, bv .u64 (fws.getD k 0)), (8, .bool true), (9, iN .i64 k), (10, bv .u64 (fws.getD k 0)), (11, iN .i64 k), (12, bv .u64 (fws.getD k 0)), (13, iN .u64 64), (14, bv .u64 (cutP 64 (fws.getD k 0))), (15, .pointer (some ⟨q4, k, none⟩)), (16, iN .i64 (k + 1))] : List (Nat × Value)).find? (·.1 == ii)).elim undef (·.2), by kernel_rfl, h14⟩
  · rintro _ w15 ⟨u7, rfl, h16⟩
    refine wp_seq ?_
    refine wl_region ?_
    refine wl_val (.bool false) (by kernel_rfl) (run_lss (k := .i64) (a := 8) (b := 8) (by kernel_rfl) (by kernel_rfl) false (by decide)) ?_
    refine wl_nil ?_
    refine then_at (F := ⟨(zHs1_3 q1 q4 u7 (un :: [])).toArray, []⟩) (by kernel_rfl) ?_
    refine wp_seq ?_
    refine wp_cond_false (by kernel_rfl) ?_
    refine wp_exit ?_
    repeat first | refine then_exit ?_ | refine block_exit ?_ | refine block_exit_ne (by decide) ?_
    refine then_at (F := ⟨(zHs1_3 q1 q4 u7 (un :: [])).toArray, []⟩) (by kernel_rfl) ?_
    refine wp_seq ?_
    refine wl_region ?_
    refine wl_load h16 0 rfl (by kernel_rfl) (by kernel_rfl) Tryd.underlying97 rfl (info43 .u64 ((begP 64).take 8 ++ List.replicate (8 - 8) 0) (beg_lenL 8 (by omega))) ?_
    refine wl_fill (c' := wc .u64 ((begP 64).take 8 ++ List.replicate (8 - 8) 0)) h16 1 rfl (by kernel_rfl) (by kernel_rfl) (by kernel_rfl) (by rw [wc_size, wc_size, (beg_lenL 8 (by omega)), (List.length_replicate)]) (info43 .u64 ((begP 64).take 8 ++ List.replicate (8 - 8) 0) (beg_lenL 8 (by omega))) (one_wc .u64 ((begP 64).take 8 ++ List.replicate (8 - 8) 0)) ?_
    intro w17 (h18 : HA w [(q4, 97, wc .u64 ((begP 64).take 8 ++ List.replicate (8 - 8) 0)), (q1, 97, wc .u64 ((begP 64).take 8 ++ List.replicate (8 - 8) 0))] w17)
    refine wl_nil ?_
    refine then_at (F := ⟨(zHs1_3 q1 q4 u7 (.agg (wc .u64 ((begP 64).take 8 ++ List.replicate (8 - 8) 0)) :: [])).toArray, []⟩) (by kernel_rfl) ?_
    refine wp_ret ?_
    repeat first | refine then_ret ?_ | refine block_ret ?_
    exact bodyPost_ret (v := .agg (wc .u64 (begP 64))) (res_cell (p := 2) (by kernel_rfl) (by kernel_rfl) (h18.get 1 rfl) Tryd.underlying97 rfl (info43 .u64 _ (begP_len 64))) rfl ⟨rfl, h18.old⟩
end Go.Proofs.YtefjnfeckenmkaaDoor.Hh

namespace Go.Proofs.YtefjnfeckenmkaaDoor.Hh
open Go.RowKit

section
variable {ρ : Operand → Value} {x y : Operand} {w : World} {dst : Option Tmp} {T T2 ty : TypeId} {pos : String} {aft : Array Edge} {gd : Option (Nat × Bool)}
theorem run_cutn {z : Operand} {q m c a b n : Nat} (hx : ρ x = .slice (some ⟨q, 0, none⟩) m c) (hz : ρ z = iN .i64 a) (hy : ρ y = iN .i64 b) (ha : a ≤ b) (hb : b ≤ c) (hac : a < c) (hn : b - a = n) : (execOp ρ ⟨dst, .slice 27 x (some z) (some y) none, ty, pos, aft, gd⟩).run Tryd.prog w = .ok (.value (.slice (some ⟨q, a, none⟩) n (c - a))) w := by
  rw [← hn]; exact run_cutb hx hz hy ha hb hac
end
/-- a word's bytes so far -/
def segP (w : Nat) (blk : List UInt8) (a j : Nat) : BitVec w := wordP w ((blk.drop a).take j)
theorem seg_step (w : Nat) (blk : List UInt8) (a j : Nat) (h : a + j < blk.length) : segP w blk a (j + 1) = (segP w blk a j <<< 8) ||| BitVec.ofNat w (blk.getD (a + j) 0).toNat := by
  unfold segP wordP
  have h2 : j < (blk.drop a).length := by rw [List.length_drop]; omega
  rw [List.take_succ_eq_append_getElem h2, List.foldl_append, List.getElem_drop, List.getD_eq_getElem?_getD, List.getElem?_eq_getElem h]
  rfl

theorem in_startL (blk : List UInt8) (i : Nat) (hi : i < 16) : firstP 64 8 blk i ++ List.replicate (80 - i) 0 = (firstP 64 8 blk i ++ [segP 64 blk (i * 8) 0]) ++ List.replicate (80 - (i + 1)) 0 := by
  rw [show 80 - i = (80 - (i + 1)) + 1 by omega, List.replicate_succ, List.append_assoc]
  rfl
theorem in_lenL (blk : List UInt8) (i j : Nat) (hi : i < 16) : ((firstP 64 8 blk i ++ [segP 64 blk (i * 8) j]) ++ List.replicate (80 - (i + 1)) 0).length = 80 := by rw [pad_len, List.length_append, firstP_len]; simp; omega
theorem sch_lenL (blk : List UInt8) (i : Nat) (hi : i ≤ 64) : (schP KL blk i ++ List.replicate (64 - i) 0).length = 80 := by rw [pad_len, schP_len]; omega
theorem spr_eqL (blk : List UInt8) : schP KL blk 64 ++ List.replicate (64 - 64) 0 = sprP KL blk := rfl
theorem spr_lenL (blk : List UInt8) : (sprP KL blk).length = 80 := sch_lenL blk 64 (by decide)

def zHs2_0 (qb : Nat) q1 q4 q7 (zt : List Value) := (.agg kcL :: .slice (some ⟨qb, 0, none⟩) 128 128 :: pt q1 :: un :: pt q4 :: pt q7 :: iN .i64 8 :: un :: un :: un :: un :: un :: un :: un :: .pointer (some ⟨q1, 1, none⟩) :: iN .i64 128 :: iN .i64 8 :: zt : List Value)
def zHs2_1 (qb : Nat) q1 q4 q7 (u10 : Nat → Value) k (zx7 zx18 zx19 : Value) (zt : List Value) := (.agg kcL :: .slice (some ⟨qb, 0, none⟩) 128 128 :: pt q1 :: un :: pt q4 :: pt q7 :: iN .i64 8 :: zx7 :: un :: u10 9 :: un :: un :: un :: un :: .pointer (some ⟨q1, 1, none⟩) :: iN .i64 128 :: iN .i64 8 :: iN .i64 k :: zx18 :: zx19 :: u10 20 :: u10 21 :: u10 22 :: u10 23 :: u10 24 :: u10 25 :: u10 26 :: u10 27 :: u10 28 :: u10 29 :: u10 30 :: u10 31 :: u10 32 :: u10 33 :: u10 34 :: u10 35 :: u10 36 :: u10 37 :: u10 38 :: u10 39 :: u10 40 :: u10 41 :: u10 42 :: u10 43 :: u10 44 :: zt : List Value)
def zHs2_2 (qb : Nat) q1 q4 q7 k (u10 : Nat → Value) (zx9 zx30 zx31 zx32 zx33 zx34 zx35 zx36 zx37 zx38 zx39 zx40 zx41 zx42 zx43 : Value) (zt : List Value) := (.agg kcL :: .slice (some ⟨qb, 0, none⟩) 128 128 :: pt q1 :: un :: pt q4 :: pt q7 :: iN .i64 8 :: iN .i64 k :: un :: zx9 :: un :: un :: un :: un :: .pointer (some ⟨q1, 1, none⟩) :: iN .i64 128 :: iN .i64 8 :: iN .i64 k :: .bool true :: iN .i64 k :: .slice (some ⟨qb, 0, none⟩) 128 128 :: iN .i64 k :: iN .i64 8 :: iN .i64 (k * 8) :: iN .i64 k :: iN .i64 (k + 1) :: iN .i64 8 :: iN .i64 ((k + 1) * 8) :: .slice (some ⟨qb, k * 8, none⟩) 8 (128 - (k * 8)) :: iN .i64 8 :: zx30 :: zx31 :: zx32 :: zx33 :: zx34 :: zx35 :: zx36 :: zx37 :: zx38 :: zx39 :: zx40 :: zx41 :: zx42 :: zx43 :: u10 44 :: zt : List Value)
def zHs2_3 (qb : Nat) q1 q4 q7 (u10 : Nat → Value) (zx10 zx11 zx12 zx13 : Value) (zt : List Value) := (.agg kcL :: .slice (some ⟨qb, 0, none⟩) 128 128 :: pt q1 :: un :: pt q4 :: pt q7 :: iN .i64 8 :: u10 7 :: un :: u10 9 :: zx10 :: zx11 :: zx12 :: zx13 :: .pointer (some ⟨q1, 1, none⟩) :: iN .i64 128 :: iN .i64 8 :: iN .i64 16 :: .bool false :: u10 19 :: u10 20 :: u10 21 :: u10 22 :: u10 23 :: u10 24 :: u10 25 :: u10 26 :: u10 27 :: u10 28 :: u10 29 :: u10 30 :: u10 31 :: u10 32 :: u10 33 :: u10 34 :: u10 35 :: u10 36 :: u10 37 :: u10 38 :: u10 39 :: u10 40 :: u10 41 :: u10 42 :: u10 43 :: u10 44 :: zt : List Value)
def zHs2_4 (qb : Nat) q1 q4 q7 (u10 : Nat → Value) q27 q28 k (u29 : Nat → Value) (zx51 zx52 zx53 zx54 : Value) (zt : List Value) := (.agg kcL :: .slice (some ⟨qb, 0, none⟩) 128 128 :: pt q1 :: un :: pt q4 :: pt q7 :: iN .i64 8 :: u10 7 :: un :: u10 9 :: iN .u64 64 :: pt q27 :: pt q28 :: iN .i64 (16 + k) :: .pointer (some ⟨q1, 1, none⟩) :: iN .i64 128 :: iN .i64 8 :: iN .i64 16 :: .bool false :: u10 19 :: u10 20 :: u10 21 :: u10 22 :: u10 23 :: u10 24 :: u10 25 :: u10 26 :: u10 27 :: u10 28 :: u10 29 :: u10 30 :: u10 31 :: u10 32 :: u10 33 :: u10 34 :: u10 35 :: u10 36 :: u10 37 :: u10 38 :: u10 39 :: u10 40 :: u10 41 :: u10 42 :: u10 43 :: u10 44 :: pt q1 :: iN .u64 64 :: .pointer (some ⟨q1, 10, none⟩) :: .agg (tc 1 8 7) :: .pointer (some ⟨q1, 13, none⟩) :: .agg (tc 19 61 6) :: zx51 :: zx52 :: zx53 :: zx54 :: u29 55 :: u29 56 :: u29 57 :: u29 58 :: u29 59 :: u29 60 :: u29 61 :: u29 62 :: u29 63 :: u29 64 :: u29 65 :: u29 66 :: u29 67 :: u29 68 :: u29 69 :: u29 70 :: u29 71 :: u29 72 :: u29 73 :: u29 74 :: u29 75 :: u29 76 :: u29 77 :: u29 78 :: u29 79 :: u29 80 :: u29 81 :: u29 82 :: u29 83 :: un :: zt : List Value)
def zHs2_5 (qb : Nat) q1 q4 q7 (u10 : Nat → Value) q27 q28 k (u29 : Nat → Value) (blk : List UInt8) (zt : List Value) := (.agg kcL :: .slice (some ⟨qb, 0, none⟩) 128 128 :: pt q1 :: un :: pt q4 :: pt q7 :: iN .i64 8 :: u10 7 :: un :: u10 9 :: iN .u64 64 :: pt q27 :: pt q28 :: iN .i64 (16 + k) :: .pointer (some ⟨q1, 1, none⟩) :: iN .i64 128 :: iN .i64 8 :: iN .i64 16 :: .bool false :: u10 19 :: u10 20 :: u10 21 :: u10 22 :: u10 23 :: u10 24 :: u10 25 :: u10 26 :: u10 27 :: u10 28 :: u10 29 :: u10 30 :: u10 31 :: u10 32 :: u10 33 :: u10 34 :: u10 35 :: u10 36 :: u10 37 :: u10 38 :: u10 39 :: u10 40 :: u10 41 :: u10 42 :: u10 43 :: u10 44 :: pt q1 :: iN .u64 64 :: .pointer (some ⟨q1, 10, none⟩) :: .agg (tc 1 8 7) :: .pointer (some ⟨q1, 13, none⟩) :: .agg (tc 19 61 6) :: iN .i64 (16 + k) :: .pointer (some ⟨q1, 2, none⟩) :: iN .i64 80 :: .bool true :: u29 55 :: u29 56 :: iN .i64 (16 + k) :: iN .i64 (16 + k) :: iN .i64 ((16 + k) - 2) :: .pointer (some ⟨q7, (16 + k) - 2, none⟩) :: bv .u64 ((schP KL blk k).getD ((16 + k) - 2) 0) :: .agg (tc 19 61 6) :: iN .u64 64 :: bv .u64 (movP ((schP KL blk k).getD ((16 + k) - 2) 0) (19, 61, 6)) :: iN .i64 (16 + k) :: iN .i64 ((16 + k) - 7) :: .pointer (some ⟨q7, (16 + k) - 7, none⟩) :: bv .u64 ((schP KL blk k).getD ((16 + k) - 7) 0) :: bv .u64 ((movP ((schP KL blk k).getD ((16 + k) - 2) 0) (19, 61, 6)) + ((schP KL blk k).getD ((16 + k) - 7) 0)) :: iN .i64 (16 + k) :: iN .i64 ((16 + k) - 15) :: .pointer (some ⟨q7, (16 + k) - 15, none⟩) :: bv .u64 ((schP KL blk k).getD ((16 + k) - 15) 0) :: .agg (tc 1 8 7) :: iN .u64 64 :: bv .u64 (movP ((schP KL blk k).getD ((16 + k) - 15) 0) (1, 8, 7)) :: bv .u64 (((movP ((schP KL blk k).getD ((16 + k) - 2) 0) (19, 61, 6)) + ((schP KL blk k).getD ((16 + k) - 7) 0)) + (movP ((schP KL blk k).getD ((16 + k) - 15) 0) (1, 8, 7))) :: iN .i64 (16 + k) :: iN .i64 ((16 + k) - 16) :: .pointer (some ⟨q7, (16 + k) - 16, none⟩) :: bv .u64 ((schP KL blk k).getD ((16 + k) - 16) 0) :: bv .u64 ((((movP ((schP KL blk k).getD ((16 + k) - 2) 0) (19, 61, 6)) + ((schP KL blk k).getD ((16 + k) - 7) 0)) + (movP ((schP KL blk k).getD ((16 + k) - 15) 0) (1, 8, 7))) + ((schP KL blk k).getD ((16 + k) - 16) 0)) :: .pointer (some ⟨q7, 16 + k, none⟩) :: un :: zt : List Value)
def zHs2_6 (qb : Nat) q1 q4 q7 (u10 : Nat → Value) q27 q28 (u29 : Nat → Value) (zt : List Value) := (.agg kcL :: .slice (some ⟨qb, 0, none⟩) 128 128 :: pt q1 :: un :: pt q4 :: pt q7 :: iN .i64 8 :: u10 7 :: un :: u10 9 :: iN .u64 64 :: pt q27 :: pt q28 :: iN .i64 (16 + 64) :: .pointer (some ⟨q1, 1, none⟩) :: iN .i64 128 :: iN .i64 8 :: iN .i64 16 :: .bool false :: u10 19 :: u10 20 :: u10 21 :: u10 22 :: u10 23 :: u10 24 :: u10 25 :: u10 26 :: u10 27 :: u10 28 :: u10 29 :: u10 30 :: u10 31 :: u10 32 :: u10 33 :: u10 34 :: u10 35 :: u10 36 :: u10 37 :: u10 38 :: u10 39 :: u10 40 :: u10 41 :: u10 42 :: u10 43 :: u10 44 :: pt q1 :: iN .u64 64 :: .pointer (some ⟨q1, 10, none⟩) :: .agg (tc 1 8 7) :: .pointer (some ⟨q1, 13, none⟩) :: .agg (tc 19 61 6) :: iN .i64 (16 + 64) :: .pointer (some ⟨q1, 2, none⟩) :: iN .i64 80 :: .bool false :: u29 55 :: u29 56 :: u29 57 :: u29 58 :: u29 59 :: u29 60 :: u29 61 :: u29 62 :: u29 63 :: u29 64 :: u29 65 :: u29 66 :: u29 67 :: u29 68 :: u29 69 :: u29 70 :: u29 71 :: u29 72 :: u29 73 :: u29 74 :: u29 75 :: u29 76 :: u29 77 :: u29 78 :: u29 79 :: u29 80 :: u29 81 :: u29 82 :: u29 83 :: zt : List Value)
set_option linter.unusedVariables false in
set_option maxRecDepth 100000 in
set_option maxHeartbeats 2000000 in
theorem sprL (blk : List UInt8) (hl : blk.length = 128) (qb : Nat) (w : World) (hb : Blk w qb 5 (bc blk)) :
    Calls Tryd.prog 81 #[.agg kcL, .slice (some ⟨qb, 0, none⟩) 128 128] w fun e w' => e = .returned (.agg (wc .u64 (sprP KL blk))) ∧ Below w.heap.size w w' := by
  have H0 := HA.start w
  go_enter Tryd.func81, Tryd.ntmps81
  refine wp_seq ?_
  refine wl_region ?_
  refine wl_make H0 75 (by kernel_rfl) (run_box36 (c := kcL) (by kernel_rfl)) ?_
  intro q1 w2 h3
  refine wl_make h3 111 (by kernel_rfl) run_alloc44 ?_
  intro q4 w5 h6
  refine wl_nil ?_
  refine then_at (F := ⟨(.agg kcL :: .slice (some ⟨qb, 0, none⟩) 128 128 :: pt q1 :: un :: pt q4 :: List.replicate 80 un).toArray, []⟩) (by kernel_rfl) ?_
  refine wp_seq ?_
  refine wl_region ?_
  refine wl_make h6 111 (by kernel_rfl) run_alloc44 ?_
  intro q7 w8 h9
  refine wl_nil ?_
  refine then_at (F := ⟨(.agg kcL :: .slice (some ⟨qb, 0, none⟩) 128 128 :: pt q1 :: un :: pt q4 :: pt q7 :: List.replicate 79 un).toArray, []⟩) (by kernel_rfl) ?_
  refine wp_seq ?_
  refine wl_region ?_
  refine wl_val (.pointer (some ⟨q1, 1, none⟩)) (by kernel_rfl) (by kernel_rfl) ?_
  refine wl_val (iN .i64 128) (by kernel_rfl) (run_load1 (fun w => Tryd.isAgg3 w) (by kernel_rfl) (((h9.get 2 rfl).cell 1).trans (by kernel_rfl))) ?_
  refine wl_val (iN .i64 8) (by kernel_rfl) (run_quo (k := .i64) (a := 128) (b := 16) (by kernel_rfl) (by kernel_rfl) (by decide) (by decide)) ?_
  refine wl_val (iN .i64 8) (by kernel_rfl) (by kernel_rfl) ?_
  refine wl_nil ?_
  refine then_at (F := ⟨(zHs2_0 qb q1 q4 q7 (List.replicate 68 un)).toArray, []⟩) (by kernel_rfl) ?_
  refine wp_seq ?_
  refine wp_seq ?_
  refine wl_region ?_
  refine wl_val (iN .i64 0) (by kernel_rfl) (by kernel_rfl) ?_
  refine wl_nil ?_
  refine then_at (F := ⟨(zHs2_0 qb q1 q4 q7 (iN .i64 0 :: List.replicate 67 un)).toArray, []⟩) (by kernel_rfl) ?_
  refine wp_block ?_
  refine wp_count (fun k A w' => ∃ u10 : Nat → Value, A = ⟨(zHs2_1 qb q1 q4 q7 u10 k (u10 7) (u10 18) (u10 19) (List.replicate 40 un)).toArray, []⟩ ∧ HA w [(q7, 111, wc .u64 (firstP 64 8 blk k ++ List.replicate (80 - k) 0)), (q4, 111, wc .u64 (List.replicate 80 (0 : BitVec 64))), (q1, 75, kcL)] w') 16 ?_ ?_ ?_
  · exact ⟨fun ii => (([(7, undef), (9, undef), (18, undef), (19, undef), (20, undef), (21, undef), (22, undef), (23, undef), (24, undef), (25, undef), (26, undef), (27, undef), (28, undef), (29, undef), (30, undef), (31, undef), (32, undef), (33, undef), (34, undef), (35, undef), (36, undef), (37, undef), (38, undef), (39, undef), (40, undef), (41, undef), (42, undef), (43, undef), (44, undef)] : List (Nat × Value)).find? (·.1 == ii)).elim undef (·.2), by kernel_rfl, h9⟩
  · rintro k hk _ w11 ⟨u10, rfl, h12⟩
    refine wp_seq ?_
    refine wl_region ?_
    refine wl_val (.bool true) (by kernel_rfl) (run_lss (k := .i64) (a := k) (b := 16) (by kernel_rfl) (by kernel_rfl) true (decide_eq_true hk)) ?_
    refine wl_nil ?_
    refine then_at (F := ⟨(zHs2_1 qb q1 q4 q7 u10 k (u10 7) (.bool true) (u10 19) (List.replicate 40 un)).toArray, []⟩) (by kernel_rfl) ?_
    refine wp_seq ?_
    refine wp_cond_true (by kernel_rfl) ?_
    refine wp_skip ?_
    refine then_at (F := ⟨(zHs2_1 qb q1 q4 q7 u10 k (u10 7) (.bool true) (u10 19) (List.replicate 40 un)).toArray, []⟩) (by kernel_rfl) ?_
    refine wp_seq ?_
    refine wp_block ?_
    refine wp_seq ?_
    refine wl_region ?_
    refine wl_val (iN .i64 k) (by kernel_rfl) (by kernel_rfl) ?_
    refine wl_val (iN .i64 k) (by kernel_rfl) (by kernel_rfl) ?_
    refine wl_nil ?_
    refine then_at (F := ⟨(zHs2_1 qb q1 q4 q7 u10 k (iN .i64 k) (.bool true) (iN .i64 k) (List.replicate 40 un)).toArray, []⟩) (by kernel_rfl) ?_
    refine wp_seq ?_
    refine wl_region ?_
    refine wl_val (.slice (some ⟨qb, 0, none⟩) 128 128) (by kernel_rfl) (by kernel_rfl) ?_
    refine wl_val (iN .i64 k) (by kernel_rfl) (by kernel_rfl) ?_
    refine wl_val (iN .i64 8) (by kernel_rfl) (by kernel_rfl) ?_
    refine wl_val (iN .i64 (k * 8)) (by kernel_rfl) (run_mul (k := .i64) (a := k) (b := 8) (by kernel_rfl) (by kernel_rfl) (by simp only [top]; omega)) ?_
    refine wl_val (iN .i64 k) (by kernel_rfl) (by kernel_rfl) ?_
    refine wl_val (iN .i64 (k + 1)) (by kernel_rfl) (run_add (k := .i64) (a := k) (b := 1) (by kernel_rfl) (by kernel_rfl) (by simp only [top]; omega)) ?_
    refine wl_val (iN .i64 8) (by kernel_rfl) (by kernel_rfl) ?_
    refine wl_val (iN .i64 ((k + 1) * 8)) (by kernel_rfl) (run_mul (k := .i64) (a := k + 1) (b := 8) (by kernel_rfl) (by kernel_rfl) (by simp only [top]; omega)) ?_
    refine wl_val (.slice (some ⟨qb, k * 8, none⟩) 8 (128 - (k * 8))) (by kernel_rfl) (run_cutn (q := qb) (m := 128) (c := 128) (a := k * 8) (b := (k + 1) * 8) (n := 8) (by kernel_rfl) (by kernel_rfl) (by kernel_rfl) (by omega) (by omega) (by omega) (by omega)) ?_
    refine wl_val (iN .i64 8) (by kernel_rfl) (run_len28 (q := some ⟨qb, k * 8, none⟩) (m := 8) (c := 128 - (k * 8)) (by kernel_rfl)) ?_
    refine wl_val (iN .i64 0) (by kernel_rfl) (by kernel_rfl) ?_
    refine wl_nil ?_
    refine then_at (F := ⟨(zHs2_2 qb q1 q4 q7 k u10 (u10 9) (iN .i64 0) (u10 31) (u10 32) (u10 33) (u10 34) (u10 35) (u10 36) (u10 37) (u10 38) (u10 39) (u10 40) (u10 41) (u10 42) (u10 43) (List.replicate 40 un)).toArray, []⟩) (by kernel_rfl) ?_
    refine wp_block ?_
    refine wp_count (fun j A w' => ∃ u13 : Nat → Value, A = ⟨(zHs2_2 qb q1 q4 q7 k u10 (u13 9) (iN .i64 j) (u13 31) (u13 32) (u13 33) (u13 34) (u13 35) (u13 36) (u13 37) (u13 38) (u13 39) (u13 40) (u13 41) (u13 42) (u13 43) (List.replicate 40 un)).toArray, []⟩ ∧ HA w [(q7, 111, wc .u64 ((firstP 64 8 blk k ++ [segP 64 blk (k * 8) j]) ++ List.replicate (80 - (k + 1)) 0)), (q4, 111, wc .u64 (List.replicate 80 (0 : BitVec 64))), (q1, 75, kcL)] w') 8 ?_ ?_ ?_
    · exact ⟨fun ii => (([(9, u10 9), (31, u10 31), (32, u10 32), (33, u10 33), (34, u10 34), (35, u10 35), (36, u10 36), (37, u10 37), (38, u10 38), (39, u10 39), (40, u10 40), (41, u10 41), (42, u10 42), (43, u10 43)] : List (Nat × Value)).find? (·.1 == ii)).elim undef (·.2), by kernel_rfl, (by rw [← in_startL blk k hk]; exact h12)⟩
    · rintro j hj _ w14 ⟨u13, rfl, h15⟩
      refine wp_seq ?_
      refine wl_region ?_
      refine wl_val (.bool true) (by kernel_rfl) (run_lss (k := .i64) (a := j) (b := 8) (by kernel_rfl) (by kernel_rfl) true (decide_eq_true hj)) ?_
      refine wl_nil ?_
      refine then_at (F := ⟨(zHs2_2 qb q1 q4 q7 k u10 (u13 9) (iN .i64 j) (.bool true) (u13 32) (u13 33) (u13 34) (u13 35) (u13 36) (u13 37) (u13 38) (u13 39) (u13 40) (u13 41) (u13 42) (u13 43) (List.replicate 40 un)).toArray, []⟩) (by kernel_rfl) ?_
      refine wp_seq ?_
      refine wp_cond_true (by kernel_rfl) ?_
      refine wp_skip ?_
      refine then_at (F := ⟨(zHs2_2 qb q1 q4 q7 k u10 (u13 9) (iN .i64 j) (.bool true) (u13 32) (u13 33) (u13 34) (u13 35) (u13 36) (u13 37) (u13 38) (u13 39) (u13 40) (u13 41) (u13 42) (u13 43) (List.replicate 40 un)).toArray, []⟩) (by kernel_rfl) ?_
      refine wp_seq ?_
      refine wp_block ?_
      refine wp_seq ?_
      refine wl_region ?_
      refine wl_val (.pointer (some ⟨qb, k * 8 + j, none⟩)) (by kernel_rfl) (run_addr_part (q := qb) (o := k * 8) (m := 8) (c := 128 - (k * 8)) (i := j) (by kernel_rfl) (by kernel_rfl) (by omega)) ?_
      refine wl_val (by8 (blk.getD (k * 8 + j) 0)) (by kernel_rfl) (run_load1 (fun w => Tryd.isAgg5 w) (by kernel_rfl) (((hb.keep h15.old).cell (k * 8 + j)).trans (bc_get blk (k * 8 + j) (by rw [hl]; omega)))) ?_
      refine wl_val (by8 (blk.getD (k * 8 + j) 0)) (by kernel_rfl) (by kernel_rfl) ?_
      refine wl_nil ?_
      refine then_at (F := ⟨(zHs2_2 qb q1 q4 q7 k u10 (by8 (blk.getD (k * 8 + j) 0)) (iN .i64 j) (.bool true) (.pointer (some ⟨qb, k * 8 + j, none⟩)) (by8 (blk.getD (k * 8 + j) 0)) (u13 34) (u13 35) (u13 36) (u13 37) (u13 38) (u13 39) (u13 40) (u13 41) (u13 42) (u13 43) (List.replicate 40 un)).toArray, []⟩) (by kernel_rfl) ?_
      refine wl_region ?_
      refine wl_val (iN .i64 k) (by kernel_rfl) (by kernel_rfl) ?_
      refine wl_val (iN .i64 k) (by kernel_rfl) (by kernel_rfl) ?_
      refine wl_val (.pointer (some ⟨q7, k, none⟩)) (by kernel_rfl) (run_addr_arr (q := q7) (a := k) Tryd.underlying111 (fun w => Tryd.sizeOf34 w) (by kernel_rfl) (by kernel_rfl) (by omega)) ?_
      refine wl_val (bv .u64 (segP 64 blk (k * 8) j)) (by kernel_rfl) (run_load1 (fun w => Tryd.isAgg34 w) (by kernel_rfl) (((h15.get 0 rfl).cell k).trans (last_get .u64 (firstP 64 8 blk k) _ (80 - (k + 1)) k (firstP_len 64 8 blk k)))) ?_
      refine wl_val (bv .u64 ((segP 64 blk (k * 8) j) <<< 8)) (by kernel_rfl) (run_shlv (k2 := .u64) (m := 8) WK.l (a := segP 64 blk (k * 8) j) (by kernel_rfl) (by kernel_rfl) (by decide)) ?_
      refine wl_val (by8 (blk.getD (k * 8 + j) 0)) (by kernel_rfl) (by kernel_rfl) ?_
      refine wl_val (bv .u64 (BitVec.ofNat 64 (blk.getD (k * 8 + j) 0).toNat)) (by kernel_rfl) (run_wide (u := blk.getD (k * 8 + j) 0) WK.l (by kernel_rfl) Tryd.underlying5 Tryd.underlying34) ?_
      refine wl_val (bv .u64 (((segP 64 blk (k * 8) j) <<< 8) ||| (BitVec.ofNat 64 (blk.getD (k * 8 + j) 0).toNat))) (by kernel_rfl) (run_orv WK.l (a := (segP 64 blk (k * 8) j) <<< 8) (b := BitVec.ofNat 64 (blk.getD (k * 8 + j) 0).toNat) (by kernel_rfl) (by kernel_rfl)) ?_
      refine wl_val (.pointer (some ⟨q7, k, none⟩)) (by kernel_rfl) (run_addr_arr (q := q7) (a := k) Tryd.underlying111 (fun w => Tryd.sizeOf34 w) (by kernel_rfl) (by kernel_rfl) (by omega)) ?_
      refine wl_put (k := .u64) (z := (((((segP 64 blk (k * 8) j) <<< 8) ||| (BitVec.ofNat 64 (blk.getD (k * 8 + j) 0).toNat)).toNat : Nat) : Int)) h15 0 rfl k (by rw [wc_size, (in_lenL blk k j hk)]; omega) (by kernel_rfl) (fun w => Tryd.sizeOf34 w) (by kernel_rfl) (by kernel_rfl) ?_
      intro w16 h17
      have h18 : HA w [(q7, 111, wc .u64 ((firstP 64 8 blk k ++ [segP 64 blk (k * 8) (j + 1)]) ++ List.replicate (80 - (k + 1)) 0)), (q4, 111, wc .u64 (List.replicate 80 (0 : BitVec 64))), (q1, 75, kcL)] w16 := by
        have e : (wc .u64 ((firstP 64 8 blk k ++ [segP 64 blk (k * 8) j]) ++ List.replicate (80 - (k + 1)) 0)).setIfInBounds k (.int .u64 (((((segP 64 blk (k * 8) j) <<< 8) ||| (BitVec.ofNat 64 (blk.getD (k * 8 + j) 0).toNat)).toNat : Nat) : Int)) = wc .u64 ((firstP 64 8 blk k ++ [segP 64 blk (k * 8) (j + 1)]) ++ List.replicate (80 - (k + 1)) 0) := (by rw [seg_step 64 blk (k * 8) j (by omega)]; exact last_put .u64 (firstP 64 8 blk k) _ (((segP 64 blk (k * 8) j) <<< 8) ||| (BitVec.ofNat 64 (blk.getD (k * 8 + j) 0).toNat)) (80 - (k + 1)) k (firstP_len 64 8 blk k))
        rw [← e]; exact h17
      clear h17
      refine wl_nil ?_
      refine block_normal ?_
      refine then_at (F := ⟨(zHs2_2 qb q1 q4 q7 k u10 (by8 (blk.getD (k * 8 + j) 0)) (iN .i64 j) (.bool true) (.pointer (some ⟨qb, k * 8 + j, none⟩)) (by8 (blk.getD (k * 8 + j) 0)) (iN .i64 k) (iN .i64 k) (.pointer (some ⟨q7, k, none⟩)) (bv .u64 (segP 64 blk (k * 8) j)) (bv .u64 ((segP 64 blk (k * 8) j) <<< 8)) (by8 (blk.getD (k * 8 + j) 0)) (bv .u64 (BitVec.ofNat 64 (blk.getD (k * 8 + j) 0).toNat)) (bv .u64 (((segP 64 blk (k * 8) j) <<< 8) ||| (BitVec.ofNat 64 (blk.getD (k * 8 + j) 0).toNat))) (.pointer (some ⟨q7, k, none⟩)) (u13 43) (List.replicate 40 un)).toArray, []⟩) (by kernel_rfl) ?_
      refine wl_region ?_
      refine wl_val (iN .i64 (j + 1)) (by kernel_rfl) (run_add (k := .i64) (a := j) (b := 1) (by kernel_rfl) (by kernel_rfl) (by simp only [top]; omega)) ?_
      refine wl_val (iN .i64 (j + 1)) (by kernel_rfl) (by kernel_rfl) ?_
      refine wl_nil ?_
      exact then_I ⟨fun ii => (([(9, by8 (blk.getD (k * 8 + j) 0)), (31, .bool true), (32, .pointer (some ⟨qb, k * 8 + j, none⟩)), (33, by8 (blk.getD (k * 8 + j) 0)), (34, iN .i64 k), (35, iN .i64 k), (36, .pointer (some ⟨q7, k, none⟩)), (37, bv .u64 (segP 64 blk (k * 8) j)), (38, bv .u64 ((segP 64 blk (k * 8) j) <<< 8)), (39, by8 (blk.getD (k * 8 + j) 0)), (40, bv .u64 (BitVec.ofNat 64 (blk.getD (k * 8 + j) 0).toNat)), (41, bv .u64 (((segP 64 blk (k * 8) j) <<< 8) ||| (BitVec.ofNat 64 (blk.getD (k * 8 + j) 0).toNat))), (42, .pointer (some ⟨q7, k, none⟩)), (43, iN .i64 (j + 1))] : List (Nat × Value)).find? (·.1 == ii)).elim undef (·.2), by kernel_rfl, h18⟩
    · rintro _ w19 ⟨u13, rfl, h20⟩
      refine wp_seq ?_
      refine wl_region ?_
      refine wl_val (.bool false) (by kernel_rfl) (run_lss (k := .i64) (a := 8) (b := 8) (by kernel_rfl) (by kernel_rfl) false (by decide)) ?_
      refine wl_nil ?_
      refine then_at (F := ⟨(zHs2_2 qb q1 q4 q7 k u10 (u13 9) (iN .i64 8) (.bool false) (u13 32) (u13 33) (u13 34) (u13 35) (u13 36) (u13 37) (u13 38) (u13 39) (u13 40) (u13 41) (u13 42) (u13 43) (List.replicate 40 un)).toArray, []⟩) (by kernel_rfl) ?_
      refine wp_seq ?_
      refine wp_cond_false (by kernel_rfl) ?_
      refine wp_exit ?_
      repeat first | refine then_exit ?_ | refine block_exit ?_ | refine block_exit_ne (by decide) ?_
      refine block_normal ?_
      refine then_at (F := ⟨(zHs2_2 qb q1 q4 q7 k u10 (u13 9) (iN .i64 8) (.bool false) (u13 32) (u13 33) (u13 34) (u13 35) (u13 36) (u13 37) (u13 38) (u13 39) (u13 40) (u13 41) (u13 42) (u13 43) (List.replicate 40 un)).toArray, []⟩) (by kernel_rfl) ?_
      refine wl_region ?_
      refine wl_val (iN .i64 (k + 1)) (by kernel_rfl) (run_add (k := .i64) (a := k) (b := 1) (by kernel_rfl) (by kernel_rfl) (by simp only [top]; omega)) ?_
      refine wl_val (iN .i64 (k + 1)) (by kernel_rfl) (by kernel_rfl) ?_
      refine wl_nil ?_
      exact then_I ⟨fun ii => (([(7, iN .i64 k), (9, u13 9), (18, .bool true), (19, iN .i64 k), (20, .slice (some ⟨qb, 0, none⟩) 128 128), (21, iN .i64 k), (22, iN .i64 8), (23, iN .i64 (k * 8)), (24, iN .i64 k), (25, iN .i64 (k + 1)), (26, iN .i64 8), (27, iN .i64 ((k + 1) * 8)), (28, .slice (some ⟨qb, k * 8, none⟩) 8 (128 - (k * 8))), (29, iN .i64 8), (30, iN .i64 8), (31, .bool false), (32, u13 32), (33, u13 33), (34, u13 34), (35, u13 35), (36, u13 36), (37, u13 37), (38, u13 38), (39, u13 39), (40, u13 40), (41, u13 41), (42, u13 42), (43, u13 43), (44, iN .i64 (k + 1))] : List (Nat × Value)).find? (·.1 == ii)).elim undef (·.2), by kernel_rfl, h20⟩
  · rintro _ w21 ⟨u10, rfl, h22⟩
    refine wp_seq ?_
    refine wl_region ?_
    refine wl_val (.bool false) (by kernel_rfl) (run_lss (k := .i64) (a := 16) (b := 16) (by kernel_rfl) (by kernel_rfl) false (by decide)) ?_
    refine wl_nil ?_
    refine then_at (F := ⟨(zHs2_3 qb q1 q4 q7 u10 un un un un (List.replicate 40 un)).toArray, []⟩) (by kernel_rfl) ?_
    refine wp_seq ?_
    refine wp_cond_false (by kernel_rfl) ?_
    refine wp_exit ?_
    repeat first | refine then_exit ?_ | refine block_exit ?_ | refine block_exit_ne (by decide) ?_
    refine then_at (F := ⟨(zHs2_3 qb q1 q4 q7 u10 un un un un (List.replicate 40 un)).toArray, []⟩) (by kernel_rfl) ?_
    refine wp_seq ?_
    obtain ⟨B23, eB23⟩ : ∃ B, B = w21.heap.size := ⟨_, rfl⟩
    refine wp_region_ghost (fun g : Nat → Nat => (⟨(zHs2_3 qb q1 q4 q7 u10 (iN .u64 64) (pt (g 6)) (pt (g 7)) un (pt q1 :: iN .u64 64 :: .pointer (some ⟨q1, 10, none⟩) :: .agg (tc 1 8 7) :: .pointer (some ⟨q1, 13, none⟩) :: .agg (tc 19 61 6) :: List.replicate 34 un)).toArray, []⟩ : Act)) (GS w [(q7, 111, wc .u64 (firstP 64 8 blk 16 ++ List.replicate (80 - 16) 0)), (q4, 111, wc .u64 (List.replicate 80 (0 : BitVec 64))), (q1, 75, kcL)] B23 2 6 9 73 (tc 0 0 0) (fun j => match j with | 0 => tc 1 8 7 | _ => tc 19 61 6)) [.pointer (some ⟨q1, 0, none⟩), iN .u64 64, .pointer (some ⟨q1, 10, none⟩), .agg (tc 1 8 7), .pointer (some ⟨q1, 13, none⟩), .agg (tc 19 61 6), .pointer (some ⟨0, 0, none⟩), .pointer (some ⟨0, 0, none⟩), iN .u64 64, undef, undef] (by kernel_rfl) (by kernel_rfl) (by kernel_rfl) (by kernel_rfl) (fun _ _ _ _ h => h) (fun d hd => GS.start h22.drew eB23 (by decide) (fun j _ => by rcases j with _ | j <;> exact rfl) (fun j hj => hd j (Nat.lt_of_lt_of_le hj (by decide)))) ?_ ?_
    · refine AllGhost.cons (ghost_plain (v := .pointer (some ⟨q1, 0, none⟩)) (by decide) (fun _ => by kernel_rfl) (fun _ => by kernel_rfl) (fun _ _ => (by kernel_rfl))) ?_
      refine AllGhost.cons (ghost_held (v := iN .u64 64) (by decide) (fun _ => by kernel_rfl) (fun _ => by kernel_rfl) (fun _ w' h' => run_load1 (fun w => Tryd.isAgg59 w) (by kernel_rfl) (((h'.get 2 rfl).cell 0).trans (by kernel_rfl)))) ?_
      refine AllGhost.cons (ghost_plain (v := .pointer (some ⟨q1, 10, none⟩)) (by decide) (fun _ => by kernel_rfl) (fun _ => by kernel_rfl) (fun _ _ => (by kernel_rfl))) ?_
      refine AllGhost.cons (ghost_held (v := .agg (tc 1 8 7)) (by decide) (fun _ => by kernel_rfl) (fun _ => by kernel_rfl) (fun _ w' h' => run_part34 (q := q1) (off := 10) (a := 1) (b := 8) (d := 7) (by kernel_rfl) (h'.get 2 rfl) (by kernel_rfl))) ?_
      refine AllGhost.cons (ghost_plain (v := .pointer (some ⟨q1, 13, none⟩)) (by decide) (fun _ => by kernel_rfl) (fun _ => by kernel_rfl) (fun _ _ => (by kernel_rfl))) ?_
      refine AllGhost.cons (ghost_held (v := .agg (tc 19 61 6)) (by decide) (fun _ => by kernel_rfl) (fun _ => by kernel_rfl) (fun _ w' h' => run_part34 (q := q1) (off := 13) (a := 19) (b := 61) (d := 6) (by kernel_rfl) (h'.get 2 rfl) (by kernel_rfl))) ?_
      refine AllGhost.cons (ghost_make 0 (by decide) rfl (fun _ => by kernel_rfl) (fun _ _ => by kernel_rfl) (fun _ _ => run_alloc34)) ?_
      refine AllGhost.cons (ghost_make 1 (by decide) rfl (fun _ => by kernel_rfl) (fun _ _ => by kernel_rfl) (fun _ _ => run_alloc34)) ?_
      refine AllGhost.cons (ghost_plain (v := iN .u64 64) (by decide) (fun _ => by kernel_rfl) (fun _ => by kernel_rfl) (fun _ _ => (by kernel_rfl))) ?_
      refine AllGhost.cons (ghost_fill 0 (by decide) rfl (fun _ => by kernel_rfl) (fun _ => by kernel_rfl) (fun _ => by kernel_rfl) (fun _ => by kernel_rfl) (info34 1 8 7) (one_tc 1 8 7) (by kernel_rfl)) ?_
      refine AllGhost.cons (ghost_fill 1 (by decide) rfl (fun _ => by kernel_rfl) (fun _ => by kernel_rfl) (fun _ => by kernel_rfl) (fun _ => by kernel_rfl) (info34 19 61 6) (one_tc 19 61 6) (by kernel_rfl)) ?_
      exact AllGhost.nil
    intro g w24 g25
    have h26 : HA w [(g 7, 73, tc 19 61 6), (g 6, 73, tc 1 8 7), (q7, 111, wc .u64 (firstP 64 8 blk 16 ++ List.replicate (80 - 16) 0)), (q4, 111, wc .u64 (List.replicate 80 (0 : BitVec 64))), (q1, 75, kcL)] w24 := g25.two
    clear g25 eB23
    generalize g 6 = q27 at h26 ⊢
    generalize g 7 = q28 at h26 ⊢
    clear g
    refine then_at (F := ⟨(zHs2_3 qb q1 q4 q7 u10 (iN .u64 64) (pt q27) (pt q28) un (pt q1 :: iN .u64 64 :: .pointer (some ⟨q1, 10, none⟩) :: .agg (tc 1 8 7) :: .pointer (some ⟨q1, 13, none⟩) :: .agg (tc 19 61 6) :: List.replicate 34 un)).toArray, []⟩) (by kernel_rfl) ?_
    refine wp_seq ?_
    refine wp_seq ?_
    refine wl_region ?_
    refine wl_val (iN .i64 16) (by kernel_rfl) (by kernel_rfl) ?_
    refine wl_nil ?_
    refine then_at (F := ⟨(zHs2_3 qb q1 q4 q7 u10 (iN .u64 64) (pt q27) (pt q28) (iN .i64 16) (pt q1 :: iN .u64 64 :: .pointer (some ⟨q1, 10, none⟩) :: .agg (tc 1 8 7) :: .pointer (some ⟨q1, 13, none⟩) :: .agg (tc 19 61 6) :: List.replicate 34 un)).toArray, []⟩) (by kernel_rfl) ?_
    refine wp_block ?_
    refine wp_count (fun k A w' => ∃ u29 : Nat → Value, A = ⟨(zHs2_4 qb q1 q4 q7 u10 q27 q28 k u29 (u29 51) (u29 52) (u29 53) (u29 54) ([])).toArray, []⟩ ∧ HA w [(q28, 73, tc 19 61 6), (q27, 73, tc 1 8 7), (q7, 111, wc .u64 (schP KL blk k ++ List.replicate (64 - k) 0)), (q4, 111, wc .u64 (List.replicate 80 (0 : BitVec 64))), (q1, 75, kcL)] w') 64 ?_ ?_ ?_
    · exact ⟨fun ii => (([(51, undef), (52, undef), (53, undef), (54, undef), (55, undef), (56, undef), (57, undef), (58, undef), (59, undef), (60, undef), (61, undef), (62, undef), (63, undef), (64, undef), (65, undef), (66, undef), (67, undef), (68, undef), (69, undef), (70, undef), (71, undef), (72, undef), (73, undef), (74, undef), (75, undef), (76, undef), (77, undef), (78, undef), (79, undef), (80, undef), (81, undef), (82, undef), (83, undef)] : List (Nat × Value)).find? (·.1 == ii)).elim undef (·.2), by kernel_rfl, h26⟩
    · rintro k hk _ w30 ⟨u29, rfl, h31⟩
      refine wp_seq ?_
      refine wp_seq ?_
      refine wl_region ?_
      refine wl_val (iN .i64 (16 + k)) (by kernel_rfl) (by kernel_rfl) ?_
      refine wl_val (.pointer (some ⟨q1, 2, none⟩)) (by kernel_rfl) (by kernel_rfl) ?_
      refine wl_val (iN .i64 80) (by kernel_rfl) (run_load1 (fun w => Tryd.isAgg3 w) (by kernel_rfl) (((h31.get 4 rfl).cell 2).trans (by kernel_rfl))) ?_
      refine wl_val (.bool true) (by kernel_rfl) (run_lss (k := .i64) (a := 16 + k) (b := 80) (by kernel_rfl) (by kernel_rfl) true (decide_eq_true (by omega))) ?_
      refine wl_nil ?_
      refine then_at (F := ⟨(zHs2_4 qb q1 q4 q7 u10 q27 q28 k u29 (iN .i64 (16 + k)) (.pointer (some ⟨q1, 2, none⟩)) (iN .i64 80) (.bool true) ([])).toArray, []⟩) (by kernel_rfl) ?_
      refine wp_cond_true (by kernel_rfl) ?_
      refine wp_skip ?_
      refine then_at (F := ⟨(zHs2_4 qb q1 q4 q7 u10 q27 q28 k u29 (iN .i64 (16 + k)) (.pointer (some ⟨q1, 2, none⟩)) (iN .i64 80) (.bool true) ([])).toArray, []⟩) (by kernel_rfl) ?_
      refine wp_seq ?_
      refine wp_block ?_
      refine wp_region_ghost (fun _ : Nat → Nat => (⟨(zHs2_5 qb q1 q4 q7 u10 q27 q28 k u29 blk ([])).toArray, []⟩ : Act)) (GQ w [(q28, 73, tc 19 61 6), (q27, 73, tc 1 8 7), (q7, 111, wc .u64 (schP KL blk k ++ List.replicate (64 - k) 0)), (q4, 111, wc .u64 (List.replicate 80 (0 : BitVec 64))), (q1, 75, kcL)] (fun i => ([[], [], [1], [2], [3], [], [], [4, 5, 6], [], [8], [9], [10], [7, 11], [], [13], [14], [15], [], [], [16, 17, 18], [12, 19], [], [21], [22], [23], [20, 24], [0], [26, 25]] : List (List Nat)).getD i []) 27 2 q7 111 (wc .u64 (schP KL blk (k + 1) ++ List.replicate (64 - (k + 1)) 0))) [iN .i64 (16 + k), iN .i64 (16 + k), iN .i64 ((16 + k) - 2), .pointer (some ⟨q7, (16 + k) - 2, none⟩), bv .u64 ((schP KL blk k).getD ((16 + k) - 2) 0), .agg (tc 19 61 6), iN .u64 64, bv .u64 (movP ((schP KL blk k).getD ((16 + k) - 2) 0) (19, 61, 6)), iN .i64 (16 + k), iN .i64 ((16 + k) - 7), .pointer (some ⟨q7, (16 + k) - 7, none⟩), bv .u64 ((schP KL blk k).getD ((16 + k) - 7) 0), bv .u64 ((movP ((schP KL blk k).getD ((16 + k) - 2) 0) (19, 61, 6)) + ((schP KL blk k).getD ((16 + k) - 7) 0)), iN .i64 (16 + k), iN .i64 ((16 + k) - 15), .pointer (some ⟨q7, (16 + k) - 15, none⟩), bv .u64 ((schP KL blk k).getD ((16 + k) - 15) 0), .agg (tc 1 8 7), iN .u64 64, bv .u64 (movP ((schP KL blk k).getD ((16 + k) - 15) 0) (1, 8, 7)), bv .u64 (((movP ((schP KL blk k).getD ((16 + k) - 2) 0) (19, 61, 6)) + ((schP KL blk k).getD ((16 + k) - 7) 0)) + (movP ((schP KL blk k).getD ((16 + k) - 15) 0) (1, 8, 7))), iN .i64 (16 + k), iN .i64 ((16 + k) - 16), .pointer (some ⟨q7, (16 + k) - 16, none⟩), bv .u64 ((schP KL blk k).getD ((16 + k) - 16) 0), bv .u64 ((((movP ((schP KL blk k).getD ((16 + k) - 2) 0) (19, 61, 6)) + ((schP KL blk k).getD ((16 + k) - 7) 0)) + (movP ((schP KL blk k).getD ((16 + k) - 15) 0) (1, 8, 7))) + ((schP KL blk k).getD ((16 + k) - 16) 0)), .pointer (some ⟨q7, 16 + k, none⟩), undef] (by kernel_rfl) (by kernel_rfl) (by kernel_rfl) (by kernel_rfl) (fun _ _ _ _ h => h) (fun d hd => GQ.start h31.drew (hd 27 (by decide)) (Cl.start (n := 28) hd (by decide))) ?_ ?_
      · refine AllGhost.cons (gq_plain (v := iN .i64 (16 + k)) (by decide) (by kernel_rfl) (fun _ => by kernel_rfl) (fun _ => by kernel_rfl) (fun _ _ => (by kernel_rfl))) ?_
        refine AllGhost.cons (gq_plain (v := iN .i64 (16 + k)) (by decide) (by kernel_rfl) (fun _ => by kernel_rfl) (fun _ => by kernel_rfl) (fun _ _ => (by kernel_rfl))) ?_
        refine AllGhost.cons (gq_plain (v := iN .i64 ((16 + k) - 2)) (by decide) (by kernel_rfl) (fun _ => by kernel_rfl) (fun _ => by kernel_rfl) (fun _ _ => (run_sub (k := .i64) (a := 16 + k) (b := 2) (by kernel_rfl) (by kernel_rfl) (by omega) (by simp only [top]; omega)))) ?_
        refine AllGhost.cons (gq_plain (v := .pointer (some ⟨q7, (16 + k) - 2, none⟩)) (by decide) (by kernel_rfl) (fun _ => by kernel_rfl) (fun _ => by kernel_rfl) (fun _ _ => (run_addr_arr (q := q7) (a := (16 + k) - 2) Tryd.underlying111 (fun w => Tryd.sizeOf34 w) (by kernel_rfl) (by kernel_rfl) (by omega)))) ?_
        refine AllGhost.cons (gq_read (v := bv .u64 ((schP KL blk k).getD ((16 + k) - 2) 0)) 2 rfl (.inr (fun d C h => (C 7 (C 12 (C 20 (C 25 (C 27 h 25 (by decide)) 20 (by decide)) 12 (by decide)) 7 (by decide)) 4 (by decide)))) (by decide) (by kernel_rfl) (fun _ => by kernel_rfl) (fun _ => by kernel_rfl) (fun _ _ hb => run_load1 (fun w => Tryd.isAgg34 w) (by kernel_rfl) ((hb.cell ((16 + k) - 2)).trans (pad_get .u64 (schP KL blk k) (64 - k) ((16 + k) - 2) (by rw [schP_len]; omega))))) ?_
        refine AllGhost.cons (gq_read (v := .agg (tc 19 61 6)) 0 rfl (.inl (by decide)) (by decide) (by kernel_rfl) (fun _ => by kernel_rfl) (fun _ => by kernel_rfl) (fun _ _ hb => run_load_blk (by kernel_rfl) hb Tryd.underlying73 rfl (info34 19 61 6))) ?_
        refine AllGhost.cons (gq_plain (v := iN .u64 64) (by decide) (by kernel_rfl) (fun _ => by kernel_rfl) (fun _ => by kernel_rfl) (fun _ _ => (by kernel_rfl))) ?_
        refine AllGhost.cons (gq_call (v := bv .u64 (movP ((schP KL blk k).getD ((16 + k) - 2) 0) (19, 61, 6))) (by decide) (by kernel_rfl) (fun _ => by kernel_rfl) (fun _ => by kernel_rfl) enter37 #[bv .u64 ((schP KL blk k).getD ((16 + k) - 2) 0), .agg (tc 19 61 6), iN .u64 64] (fun _ => by kernel_rfl) (fun w' ho => mbL ((schP KL blk k).getD ((16 + k) - 2) 0) 19 61 6 (by decide) (by decide) (by decide) w')) ?_
        refine AllGhost.cons (gq_plain (v := iN .i64 (16 + k)) (by decide) (by kernel_rfl) (fun _ => by kernel_rfl) (fun _ => by kernel_rfl) (fun _ _ => (by kernel_rfl))) ?_
        refine AllGhost.cons (gq_plain (v := iN .i64 ((16 + k) - 7)) (by decide) (by kernel_rfl) (fun _ => by kernel_rfl) (fun _ => by kernel_rfl) (fun _ _ => (run_sub (k := .i64) (a := 16 + k) (b := 7) (by kernel_rfl) (by kernel_rfl) (by omega) (by simp only [top]; omega)))) ?_
        refine AllGhost.cons (gq_plain (v := .pointer (some ⟨q7, (16 + k) - 7, none⟩)) (by decide) (by kernel_rfl) (fun _ => by kernel_rfl) (fun _ => by kernel_rfl) (fun _ _ => (run_addr_arr (q := q7) (a := (16 + k) - 7) Tryd.underlying111 (fun w => Tryd.sizeOf34 w) (by kernel_rfl) (by kernel_rfl) (by omega)))) ?_
        refine AllGhost.cons (gq_read (v := bv .u64 ((schP KL blk k).getD ((16 + k) - 7) 0)) 2 rfl (.inr (fun d C h => (C 12 (C 20 (C 25 (C 27 h 25 (by decide)) 20 (by decide)) 12 (by decide)) 11 (by decide)))) (by decide) (by kernel_rfl) (fun _ => by kernel_rfl) (fun _ => by kernel_rfl) (fun _ _ hb => run_load1 (fun w => Tryd.isAgg34 w) (by kernel_rfl) ((hb.cell ((16 + k) - 7)).trans (pad_get .u64 (schP KL blk k) (64 - k) ((16 + k) - 7) (by rw [schP_len]; omega))))) ?_
        refine AllGhost.cons (gq_plain (v := bv .u64 ((movP ((schP KL blk k).getD ((16 + k) - 2) 0) (19, 61, 6)) + ((schP KL blk k).getD ((16 + k) - 7) 0))) (by decide) (by kernel_rfl) (fun _ => by kernel_rfl) (fun _ => by kernel_rfl) (fun _ _ => (run_addv WK.l (a := movP ((schP KL blk k).getD ((16 + k) - 2) 0) (19, 61, 6)) (b := (schP KL blk k).getD ((16 + k) - 7) 0) (by kernel_rfl) (by kernel_rfl)))) ?_
        refine AllGhost.cons (gq_plain (v := iN .i64 (16 + k)) (by decide) (by kernel_rfl) (fun _ => by kernel_rfl) (fun _ => by kernel_rfl) (fun _ _ => (by kernel_rfl))) ?_
        refine AllGhost.cons (gq_plain (v := iN .i64 ((16 + k) - 15)) (by decide) (by kernel_rfl) (fun _ => by kernel_rfl) (fun _ => by kernel_rfl) (fun _ _ => (run_sub (k := .i64) (a := 16 + k) (b := 15) (by kernel_rfl) (by kernel_rfl) (by omega) (by simp only [top]; omega)))) ?_
        refine AllGhost.cons (gq_plain (v := .pointer (some ⟨q7, (16 + k) - 15, none⟩)) (by decide) (by kernel_rfl) (fun _ => by kernel_rfl) (fun _ => by kernel_rfl) (fun _ _ => (run_addr_arr (q := q7) (a := (16 + k) - 15) Tryd.underlying111 (fun w => Tryd.sizeOf34 w) (by kernel_rfl) (by kernel_rfl) (by omega)))) ?_
        refine AllGhost.cons (gq_read (v := bv .u64 ((schP KL blk k).getD ((16 + k) - 15) 0)) 2 rfl (.inr (fun d C h => (C 19 (C 20 (C 25 (C 27 h 25 (by decide)) 20 (by decide)) 19 (by decide)) 16 (by decide)))) (by decide) (by kernel_rfl) (fun _ => by kernel_rfl) (fun _ => by kernel_rfl) (fun _ _ hb => run_load1 (fun w => Tryd.isAgg34 w) (by kernel_rfl) ((hb.cell ((16 + k) - 15)).trans (pad_get .u64 (schP KL blk k) (64 - k) ((16 + k) - 15) (by rw [schP_len]; omega))))) ?_
        refine AllGhost.cons (gq_read (v := .agg (tc 1 8 7)) 1 rfl (.inl (by decide)) (by decide) (by kernel_rfl) (fun _ => by kernel_rfl) (fun _ => by kernel_rfl) (fun _ _ hb => run_load_blk (by kernel_rfl) hb Tryd.underlying73 rfl (info34 1 8 7))) ?_
        refine AllGhost.cons (gq_plain (v := iN .u64 64) (by decide) (by kernel_rfl) (fun _ => by kernel_rfl) (fun _ => by kernel_rfl) (fun _ _ => (by kernel_rfl))) ?_
        refine AllGhost.cons (gq_call (v := bv .u64 (movP ((schP KL blk k).getD ((16 + k) - 15) 0) (1, 8, 7))) (by decide) (by kernel_rfl) (fun _ => by kernel_rfl) (fun _ => by kernel_rfl) enter37 #[bv .u64 ((schP KL blk k).getD ((16 + k) - 15) 0), .agg (tc 1 8 7), iN .u64 64] (fun _ => by kernel_rfl) (fun w' ho => mbL ((schP KL blk k).getD ((16 + k) - 15) 0) 1 8 7 (by decide) (by decide) (by decide) w')) ?_
        refine AllGhost.cons (gq_plain (v := bv .u64 (((movP ((schP KL blk k).getD ((16 + k) - 2) 0) (19, 61, 6)) + ((schP KL blk k).getD ((16 + k) - 7) 0)) + (movP ((schP KL blk k).getD ((16 + k) - 15) 0) (1, 8, 7)))) (by decide) (by kernel_rfl) (fun _ => by kernel_rfl) (fun _ => by kernel_rfl) (fun _ _ => (run_addv WK.l (a := (movP ((schP KL blk k).getD ((16 + k) - 2) 0) (19, 61, 6)) + ((schP KL blk k).getD ((16 + k) - 7) 0)) (b := movP ((schP KL blk k).getD ((16 + k) - 15) 0) (1, 8, 7)) (by kernel_rfl) (by kernel_rfl)))) ?_
        refine AllGhost.cons (gq_plain (v := iN .i64 (16 + k)) (by decide) (by kernel_rfl) (fun _ => by kernel_rfl) (fun _ => by kernel_rfl) (fun _ _ => (by kernel_rfl))) ?_
        refine AllGhost.cons (gq_plain (v := iN .i64 ((16 + k) - 16)) (by decide) (by kernel_rfl) (fun _ => by kernel_rfl) (fun _ => by kernel_rfl) (fun _ _ => (run_sub (k := .i64) (a := 16 + k) (b := 16) (by kernel_rfl) (by kernel_rfl) (by omega) (by simp only [top]; omega)))) ?_
        refine AllGhost.cons (gq_plain (v := .pointer (some ⟨q7, (16 + k) - 16, none⟩)) (by decide) (by kernel_rfl) (fun _ => by kernel_rfl) (fun _ => by kernel_rfl) (fun _ _ => (run_addr_arr (q := q7) (a := (16 + k) - 16) Tryd.underlying111 (fun w => Tryd.sizeOf34 w) (by kernel_rfl) (by kernel_rfl) (by omega)))) ?_
        refine AllGhost.cons (gq_read (v := bv .u64 ((schP KL blk k).getD ((16 + k) - 16) 0)) 2 rfl (.inr (fun d C h => (C 25 (C 27 h 25 (by decide)) 24 (by decide)))) (by decide) (by kernel_rfl) (fun _ => by kernel_rfl) (fun _ => by kernel_rfl) (fun _ _ hb => run_load1 (fun w => Tryd.isAgg34 w) (by kernel_rfl) ((hb.cell ((16 + k) - 16)).trans (pad_get .u64 (schP KL blk k) (64 - k) ((16 + k) - 16) (by rw [schP_len]; omega))))) ?_
        refine AllGhost.cons (gq_plain (v := bv .u64 ((((movP ((schP KL blk k).getD ((16 + k) - 2) 0) (19, 61, 6)) + ((schP KL blk k).getD ((16 + k) - 7) 0)) + (movP ((schP KL blk k).getD ((16 + k) - 15) 0) (1, 8, 7))) + ((schP KL blk k).getD ((16 + k) - 16) 0))) (by decide) (by kernel_rfl) (fun _ => by kernel_rfl) (fun _ => by kernel_rfl) (fun _ _ => (run_addv WK.l (a := ((movP ((schP KL blk k).getD ((16 + k) - 2) 0) (19, 61, 6)) + ((schP KL blk k).getD ((16 + k) - 7) 0)) + (movP ((schP KL blk k).getD ((16 + k) - 15) 0) (1, 8, 7))) (b := (schP KL blk k).getD ((16 + k) - 16) 0) (by kernel_rfl) (by kernel_rfl)))) ?_
        refine AllGhost.cons (gq_plain (v := .pointer (some ⟨q7, 16 + k, none⟩)) (by decide) (by kernel_rfl) (fun _ => by kernel_rfl) (fun _ => by kernel_rfl) (fun _ _ => (run_addr_arr (q := q7) (a := 16 + k) Tryd.underlying111 (fun w => Tryd.sizeOf34 w) (by kernel_rfl) (by kernel_rfl) (by omega)))) ?_
        refine AllGhost.cons (gq_put (k := .u64) (z := ((((((movP ((schP KL blk k).getD ((16 + k) - 2) 0) (19, 61, 6)) + ((schP KL blk k).getD ((16 + k) - 7) 0)) + (movP ((schP KL blk k).getD ((16 + k) - 15) 0) (1, 8, 7))) + ((schP KL blk k).getD ((16 + k) - 16) 0)).toNat : Nat) : Int)) (off := 16 + k) rfl (by rw [wc_size, (sch_lenL blk k (by omega))]; omega) ((pad_put .u64 (schP KL blk k) (64 - k) (64 - (k + 1)) (16 + k) ((((movP ((schP KL blk k).getD ((16 + k) - 2) 0) (19, 61, 6)) + ((schP KL blk k).getD ((16 + k) - 7) 0)) + (movP ((schP KL blk k).getD ((16 + k) - 15) 0) (1, 8, 7))) + ((schP KL blk k).getD ((16 + k) - 16) 0)) (schP_len KL blk k) (by omega))) (fun w => Tryd.sizeOf34 w) (by kernel_rfl) (fun _ => by kernel_rfl) (fun _ => by kernel_rfl) (fun _ => by kernel_rfl) (fun _ => by kernel_rfl)) ?_
        exact AllGhost.nil
      intro _ w32 g33
      have h34 : HA w [(q28, 73, tc 19 61 6), (q27, 73, tc 1 8 7), (q7, 111, wc .u64 (schP KL blk (k + 1) ++ List.replicate (64 - (k + 1)) 0)), (q4, 111, wc .u64 (List.replicate 80 (0 : BitVec 64))), (q1, 75, kcL)] w32 := g33.held
      clear g33
      refine block_normal ?_
      refine then_at (F := ⟨(zHs2_5 qb q1 q4 q7 u10 q27 q28 k u29 blk ([])).toArray, []⟩) (by kernel_rfl) ?_
      refine wl_region ?_
      refine wl_val (iN .i64 (16 + k)) (by kernel_rfl) (by kernel_rfl) ?_
      refine wl_val (iN .i64 ((16 + k) + 1)) (by kernel_rfl) (run_add (k := .i64) (a := 16 + k) (b := 1) (by kernel_rfl) (by kernel_rfl) (by simp only [top]; omega)) ?_
      refine wl_val (iN .i64 ((16 + k) + 1)) (by kernel_rfl) (by kernel_rfl) ?_
      refine wl_nil ?_
      exact then_I ⟨fun ii => (([(51, iN .i64 (16 + k)), (52, .pointer (some ⟨q1, 2, none⟩)), (53, iN .i64 80), (54, .bool true), (55, iN .i64 (16 + k)), (56, iN .i64 ((16 + k) + 1)), (57, iN .i64 (16 + k)), (58, iN .i64 (16 + k)), (59, iN .i64 ((16 + k) - 2)), (60, .pointer (some ⟨q7, (16 + k) - 2, none⟩)), (61, bv .u64 ((schP KL blk k).getD ((16 + k) - 2) 0)), (62, .agg (tc 19 61 6)), (63, iN .u64 64), (64, bv .u64 (movP ((schP KL blk k).getD ((16 + k) - 2) 0) (19, 61, 6))), (65, iN .i64 (16 + k)), (66, iN .i64 ((16 + k) - 7)), (67, .pointer (some ⟨q7, (16 + k) - 7, none⟩)), (68, bv .u64 ((schP KL blk k).getD ((16 + k) - 7) 0)), (69, bv .u64 ((movP ((schP KL blk k).getD ((16 + k) - 2) 0) (19, 61, 6)) + ((schP KL blk k).getD ((16 + k) - 7) 0))), (70, iN .i64 (16 + k)), (71, iN .i64 ((16 + k) - 15)), (72, .pointer (some ⟨q7, (16 + k) - 15, none⟩)), (73, bv .u64 ((schP KL blk k).getD ((16 + k) - 15) 0)), (74, .agg (tc 1 8 7)), (75, iN .u64 64), (76, bv .u64 (movP ((schP KL blk k).getD ((16 + k) - 15) 0) (1, 8, 7))), (77, bv .u64 (((movP ((schP KL blk k).getD ((16 + k) - 2) 0) (19, 61, 6)) + ((schP KL blk k).getD ((16 + k) - 7) 0)) + (movP ((schP KL blk k).getD ((16 + k) - 15) 0) (1, 8, 7)))), (78, iN .i64 (16 + k)), (79, iN .i64 ((16 + k) - 16)), (80, .pointer (some ⟨q7, (16 + k) - 16, none⟩)), (81, bv .u64 ((schP KL blk k).getD ((16 + k) - 16) 0)), (82, bv .u64 ((((movP ((schP KL blk k).getD ((16 + k) - 2) 0) (19, 61, 6)) + ((schP KL blk k).getD ((16 + k) - 7) 0)) + (movP ((schP KL blk k).getD ((16 + k) - 15) 0) (1, 8, 7))) + ((schP KL blk k).getD ((16 + k) - 16) 0))), (83, .pointer (some ⟨q7, 16 + k, none⟩))] : List (Nat × Value)).find? (·.1 == ii)).elim undef (·.2), by kernel_rfl, h34⟩
    · rintro _ w35 ⟨u29, rfl, h36⟩
      refine wp_seq ?_
      refine wp_seq ?_
      refine wl_region ?_
      refine wl_val (iN .i64 (16 + 64)) (by kernel_rfl) (by kernel_rfl) ?_
      refine wl_val (.pointer (some ⟨q1, 2, none⟩)) (by kernel_rfl) (by kernel_rfl) ?_
      refine wl_val (iN .i64 80) (by kernel_rfl) (run_load1 (fun w => Tryd.isAgg3 w) (by kernel_rfl) (((h36.get 4 rfl).cell 2).trans (by kernel_rfl))) ?_
      refine wl_val (.bool false) (by kernel_rfl) (run_lss (k := .i64) (a := 16 + 64) (b := 80) (by kernel_rfl) (by kernel_rfl) false (by decide)) ?_
      refine wl_nil ?_
      refine then_at (F := ⟨(zHs2_6 qb q1 q4 q7 u10 q27 q28 u29 (un :: [])).toArray, []⟩) (by kernel_rfl) ?_
      refine wp_cond_false (by kernel_rfl) ?_
      refine wp_exit ?_
      repeat first | refine then_exit ?_ | refine block_exit ?_ | refine block_exit_ne (by decide) ?_
      refine then_at (F := ⟨(zHs2_6 qb q1 q4 q7 u10 q27 q28 u29 (un :: [])).toArray, []⟩) (by kernel_rfl) ?_
      refine wp_seq ?_
      refine wl_region ?_
      refine wl_load h36 2 rfl (by kernel_rfl) (by kernel_rfl) Tryd.underlying111 rfl (info44 .u64 (schP KL blk 64 ++ List.replicate (64 - 64) 0) (sch_lenL blk 64 (by omega))) ?_
      refine wl_fill (c' := wc .u64 (schP KL blk 64 ++ List.replicate (64 - 64) 0)) h36 3 rfl (by kernel_rfl) (by kernel_rfl) (by kernel_rfl) (by rw [wc_size, wc_size, (sch_lenL blk 64 (by omega)), (List.length_replicate)]) (info44 .u64 (schP KL blk 64 ++ List.replicate (64 - 64) 0) (sch_lenL blk 64 (by omega))) (one_wc .u64 (schP KL blk 64 ++ List.replicate (64 - 64) 0)) ?_
      intro w37 (h38 : HA w [(q28, 73, tc 19 61 6), (q27, 73, tc 1 8 7), (q7, 111, wc .u64 (schP KL blk 64 ++ List.replicate (64 - 64) 0)), (q4, 111, wc .u64 (schP KL blk 64 ++ List.replicate (64 - 64) 0)), (q1, 75, kcL)] w37)
      refine wl_nil ?_
      refine then_at (F := ⟨(zHs2_6 qb q1 q4 q7 u10 q27 q28 u29 (.agg (wc .u64 (schP KL blk 64 ++ List.replicate (64 - 64) 0)) :: [])).toArray, []⟩) (by kernel_rfl) ?_
      refine wp_ret ?_
      repeat first | refine then_ret ?_ | refine block_ret ?_
      exact bodyPost_ret (v := .agg (wc .u64 (schP KL blk 64 ++ List.replicate (64 - 64) 0))) (res_cell (p := 4) (by kernel_rfl) (by kernel_rfl) (h38.get 3 rfl) Tryd.underlying111 rfl (info44 .u64 _ (sch_lenL blk 64 (by decide)))) rfl ⟨by rw [spr_eqL blk], h38.old⟩
end Go.Proofs.YtefjnfeckenmkaaDoor.Hh
