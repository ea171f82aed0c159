/-
  turns, moves and the first state.
-/
import Derived.Test.YtmlldbkhphngeaaDoorHZ
namespace Go.Proofs.YtmlldbkhphngeaaDoor
open Go.RowKit


set_option linter.unusedVariables false in
set_option maxRecDepth 100000 in
set_option maxHeartbeats 2000000 in
theorem rotS (x : BitVec 32) (n : Nat) (hn : n ≤ 32) (w : World) :
    Calls Tryd.prog 40 #[bv .u32 x, iN .u64 n, iN .u64 32] w fun e w' => e = .returned (bv .u32 (rotP x n)) ∧ Below w.heap.size w w' := by
  have H0 := HA.start w
  go_enter Tryd.func40, Tryd.ntmps40
  refine wp_seq ?_
  -- region 0
  refine wl_region ?_
  refine wl_val (iN .u32 0) (by kernel_rfl) (by kernel_rfl) ?_
  refine wl_nil ?_
  refine then_at (F := ⟨(bv .u32 x :: iN .u64 n :: iN .u64 32 :: un :: un :: un :: iN .u32 0 :: List.replicate 9 un).toArray, []⟩) (by kernel_rfl) ?_
  refine wp_seq ?_
  -- region 1
  refine wl_region ?_
  refine wl_val (bv .u32 x) (by kernel_rfl) (by kernel_rfl) ?_
  refine wl_val (iN .u64 n) (by kernel_rfl) (by kernel_rfl) ?_
  refine wl_val (bv .u32 (x >>> n)) (by kernel_rfl) (run_shrv (k2 := .u64) (m := n) WK.s (a := x) (by kernel_rfl) (by kernel_rfl)) ?_
  refine wl_val (bv .u32 x) (by kernel_rfl) (by kernel_rfl) ?_
  refine wl_val (iN .u64 32) (by kernel_rfl) (by kernel_rfl) ?_
  refine wl_val (iN .u64 n) (by kernel_rfl) (by kernel_rfl) ?_
  refine wl_val (iN .u64 (32 - n)) (by kernel_rfl) (run_sub (k := .u64) (a := 32) (b := n) (by kernel_rfl) (by kernel_rfl) (by omega) (by simp only [top]; omega)) ?_
  refine wl_val (bv .u32 (x <<< (32 - n))) (by kernel_rfl) (run_shlv (k2 := .u64) (m := 32 - n) WK.s (a := x) (by kernel_rfl) (by kernel_rfl) (by omega)) ?_
  refine wl_val (bv .u32 ((x >>> n) ||| (x <<< (32 - n)))) (by kernel_rfl) (run_orv WK.s (a := x >>> n) (b := x <<< (32 - n)) (by kernel_rfl) (by kernel_rfl)) ?_
  refine wl_val (bv .u32 ((x >>> n) ||| (x <<< (32 - n)))) (by kernel_rfl) (by kernel_rfl) ?_
  refine wl_nil ?_
  refine then_at (F := ⟨(bv .u32 x :: iN .u64 n :: iN .u64 32 :: un :: un :: un :: bv .u32 ((x >>> n) ||| (x <<< (32 - n))) :: bv .u32 x :: iN .u64 n :: bv .u32 (x >>> n) :: bv .u32 x :: iN .u64 32 :: iN .u64 n :: iN .u64 (32 - n) :: bv .u32 (x <<< (32 - n)) :: bv .u32 ((x >>> n) ||| (x <<< (32 - n))) :: List.replicate 0 un).toArray, []⟩) (by kernel_rfl) ?_
  refine wp_ret ?_
  repeat first | refine then_ret ?_ | refine block_ret ?_
  exact bodyPost_ret (v := bv .u32 (rotP x n)) (by kernel_rfl) rfl ⟨rfl, H0.old⟩

set_option linter.unusedVariables false in
set_option maxRecDepth 100000 in
set_option maxHeartbeats 2000000 in
theorem cutS (r : BitVec 64) (w : World) :
    Calls Tryd.prog 36 #[bv .u64 r, iN .u64 32] w fun e w' => e = .returned (bv .u32 (cutP 32 r)) ∧ Below w.heap.size w w' := by
  have H0 := HA.start w
  go_enter Tryd.func36, Tryd.ntmps36
  refine wp_seq ?_
  -- region 0
  refine wl_region ?_
  refine wl_val (iN .u32 0) (by kernel_rfl) (by kernel_rfl) ?_
  refine wl_nil ?_
  refine then_at (F := ⟨(bv .u64 r :: iN .u64 32 :: un :: un :: iN .u32 0 :: List.replicate 5 un).toArray, []⟩) (by kernel_rfl) ?_
  refine wp_seq ?_
  -- region 1
  refine wl_region ?_
  refine wl_val (bv .u64 r) (by kernel_rfl) (by kernel_rfl) ?_
  refine wl_val (iN .u64 32) (by kernel_rfl) (by kernel_rfl) ?_
  refine wl_val (iN .u64 32) (by kernel_rfl) (run_sub (k := .u64) (a := 64) (b := 32) (by kernel_rfl) (by kernel_rfl) (by decide) (by decide)) ?_
  refine wl_val (bv .u64 (r >>> 32)) (by kernel_rfl) (run_shrv (k2 := .u64) (m := 32) WK.l (a := r) (by kernel_rfl) (by kernel_rfl)) ?_
  refine wl_val (bv .u32 ((r >>> 32).setWidth 32)) (by kernel_rfl) (run_cut (a := r >>> 32) (by kernel_rfl) Tryd.underlying63 Tryd.underlying48) ?_
  refine wl_val (bv .u32 ((r >>> 32).setWidth 32)) (by kernel_rfl) (by kernel_rfl) ?_
  refine wl_nil ?_
  refine then_at (F := ⟨(bv .u64 r :: iN .u64 32 :: un :: un :: bv .u32 ((r >>> 32).setWidth 32) :: bv .u64 r :: iN .u64 32 :: iN .u64 32 :: bv .u64 (r >>> 32) :: bv .u32 ((r >>> 32).setWidth 32) :: List.replicate 0 un).toArray, []⟩) (by kernel_rfl) ?_
  refine wp_ret ?_
  repeat first | refine then_ret ?_ | refine block_ret ?_
  exact bodyPost_ret (v := bv .u32 (cutP 32 r)) (by kernel_rfl) rfl ⟨rfl, H0.old⟩

set_option linter.unusedVariables false in
set_option maxRecDepth 100000 in
set_option maxHeartbeats 2000000 in
theorem tbS (x : BitVec 32) (a b c : Nat) (ha : a ≤ 32) (hb : b ≤ 32) (hc : c ≤ 32) (w : World) :
    Calls Tryd.prog 38 #[bv .u32 x, .agg (tc a b c), iN .u64 32] w fun e w' => e = .returned (bv .u32 (turP x (a, b, c))) ∧ Below w.heap.size w w' := by
  have H0 := HA.start w
  go_enter Tryd.func38, Tryd.ntmps38
  refine wp_seq ?_
  -- region 0
  refine wl_region ?_
  refine wl_make H0 50 (by kernel_rfl) (run_box34 (c := tc a b c) (by kernel_rfl)) ?_
  intro q1 w2 h3
  refine wl_val (iN .u32 0) (by kernel_rfl) (by kernel_rfl) ?_
  refine wl_nil ?_
  refine then_at (F := ⟨(bv .u32 x :: .agg (tc a b c) :: iN .u64 32 :: un :: pt q1 :: un :: iN .u32 0 :: List.replicate 17 un).toArray, []⟩) (by kernel_rfl) ?_
  refine wp_seq ?_
  -- region 1
  refine wp_region_sure ⟨(bv .u32 x :: .agg (tc a b c) :: iN .u64 32 :: un :: pt q1 :: un :: bv .u32 (((rotP x a) ^^^ (rotP x b)) ^^^ (rotP x c)) :: bv .u32 x :: pt q1 :: iN .u64 a :: iN .u64 32 :: bv .u32 (rotP x a) :: bv .u32 x :: .pointer (some ⟨q1, 1, none⟩) :: iN .u64 b :: iN .u64 32 :: bv .u32 (rotP x b) :: bv .u32 ((rotP x a) ^^^ (rotP x b)) :: bv .u32 x :: .pointer (some ⟨q1, 2, none⟩) :: iN .u64 c :: iN .u64 32 :: bv .u32 (rotP x c) :: bv .u32 (((rotP x a) ^^^ (rotP x b)) ^^^ (rotP x c)) :: List.replicate 0 un).toArray, []⟩ (HA w [(q1, 50, tc a b c)]) [bv .u32 x, .pointer (some ⟨q1, 0, none⟩), iN .u64 a, iN .u64 32, bv .u32 (rotP x a), bv .u32 x, .pointer (some ⟨q1, 1, none⟩), iN .u64 b, iN .u64 32, bv .u32 (rotP x b), bv .u32 ((rotP x a) ^^^ (rotP x b)), bv .u32 x, .pointer (some ⟨q1, 2, none⟩), iN .u64 c, iN .u64 32, bv .u32 (rotP x c), bv .u32 (((rotP x a) ^^^ (rotP x b)) ^^^ (rotP x c)), bv .u32 (((rotP x a) ^^^ (rotP x b)) ^^^ (rotP x c))] (by kernel_rfl) (by kernel_rfl) (by kernel_rfl) (by kernel_rfl) (fun _ _ _ h => h) h3.drew ?_ ?_
  · refine AllSure.cons (OpSure.take (v := bv .u32 x) (by kernel_rfl) (by kernel_rfl) (fun _ _ => (by kernel_rfl))) ?_
    refine AllSure.cons (OpSure.take (v := .pointer (some ⟨q1, 0, none⟩)) (by kernel_rfl) (by kernel_rfl) (fun _ _ => (by kernel_rfl))) ?_
    refine AllSure.cons (OpSure.take (v := iN .u64 a) (by kernel_rfl) (by kernel_rfl) (fun _ h => run_load1 (fun w => Tryd.isAgg46 w) (by kernel_rfl) (((h.get 0 rfl).cell 0).trans (by kernel_rfl)))) ?_
    refine AllSure.cons (OpSure.take (v := iN .u64 32) (by kernel_rfl) (by kernel_rfl) (fun _ _ => (by kernel_rfl))) ?_
    refine AllSure.cons (sure_call (v := bv .u32 (rotP x a)) (by kernel_rfl) (by kernel_rfl) enter40 HA.keep #[bv .u32 x, iN .u64 a, iN .u64 32] (by kernel_rfl) (fun w' h' => rotS x a (by omega) w')) ?_
    refine AllSure.cons (OpSure.take (v := bv .u32 x) (by kernel_rfl) (by kernel_rfl) (fun _ _ => (by kernel_rfl))) ?_
    refine AllSure.cons (OpSure.take (v := .pointer (some ⟨q1, 1, none⟩)) (by kernel_rfl) (by kernel_rfl) (fun _ _ => (by kernel_rfl))) ?_
    refine AllSure.cons (OpSure.take (v := iN .u64 b) (by kernel_rfl) (by kernel_rfl) (fun _ h => run_load1 (fun w => Tryd.isAgg46 w) (by kernel_rfl) (((h.get 0 rfl).cell 1).trans (by kernel_rfl)))) ?_
    refine AllSure.cons (OpSure.take (v := iN .u64 32) (by kernel_rfl) (by kernel_rfl) (fun _ _ => (by kernel_rfl))) ?_
    refine AllSure.cons (sure_call (v := bv .u32 (rotP x b)) (by kernel_rfl) (by kernel_rfl) enter40 HA.keep #[bv .u32 x, iN .u64 b, iN .u64 32] (by kernel_rfl) (fun w' h' => rotS x b (by omega) w')) ?_
    refine AllSure.cons (OpSure.take (v := bv .u32 ((rotP x a) ^^^ (rotP x b))) (by kernel_rfl) (by kernel_rfl) (fun _ _ => (run_xorv WK.s (a := rotP x a) (b := rotP x b) (by kernel_rfl) (by kernel_rfl)))) ?_
    refine AllSure.cons (OpSure.take (v := bv .u32 x) (by kernel_rfl) (by kernel_rfl) (fun _ _ => (by kernel_rfl))) ?_
    refine AllSure.cons (OpSure.take (v := .pointer (some ⟨q1, 2, none⟩)) (by kernel_rfl) (by kernel_rfl) (fun _ _ => (by kernel_rfl))) ?_
    refine AllSure.cons (OpSure.take (v := iN .u64 c) (by kernel_rfl) (by kernel_rfl) (fun _ h => run_load1 (fun w => Tryd.isAgg46 w) (by kernel_rfl) (((h.get 0 rfl).cell 2).trans (by kernel_rfl)))) ?_
    refine AllSure.cons (OpSure.take (v := iN .u64 32) (by kernel_rfl) (by kernel_rfl) (fun _ _ => (by kernel_rfl))) ?_
    refine AllSure.cons (sure_call (v := bv .u32 (rotP x c)) (by kernel_rfl) (by kernel_rfl) enter40 HA.keep #[bv .u32 x, iN .u64 c, iN .u64 32] (by kernel_rfl) (fun w' h' => rotS x c (by omega) w')) ?_
    refine AllSure.cons (OpSure.take (v := bv .u32 (((rotP x a) ^^^ (rotP x b)) ^^^ (rotP x c))) (by kernel_rfl) (by kernel_rfl) (fun _ _ => (run_xorv WK.s (a := (rotP x a) ^^^ (rotP x b)) (b := rotP x c) (by kernel_rfl) (by kernel_rfl)))) ?_
    refine AllSure.cons (OpSure.take (v := bv .u32 (((rotP x a) ^^^ (rotP x b)) ^^^ (rotP x c))) (by kernel_rfl) (by kernel_rfl) (fun _ _ => (by kernel_rfl))) ?_
    exact AllSure.nil
  intro w4 h5
  refine then_at (F := ⟨(bv .u32 x :: .agg (tc a b c) :: iN .u64 32 :: un :: pt q1 :: un :: bv .u32 (((rotP x a) ^^^ (rotP x b)) ^^^ (rotP x c)) :: bv .u32 x :: pt q1 :: iN .u64 a :: iN .u64 32 :: bv .u32 (rotP x a) :: bv .u32 x :: .pointer (some ⟨q1, 1, none⟩) :: iN .u64 b :: iN .u64 32 :: bv .u32 (rotP x b) :: bv .u32 ((rotP x a) ^^^ (rotP x b)) :: bv .u32 x :: .pointer (some ⟨q1, 2, none⟩) :: iN .u64 c :: iN .u64 32 :: bv .u32 (rotP x c) :: bv .u32 (((rotP x a) ^^^ (rotP x b)) ^^^ (rotP x c)) :: List.replicate 0 un).toArray, []⟩) (by kernel_rfl) ?_
  refine wp_ret ?_
  repeat first | refine then_ret ?_ | refine block_ret ?_
  exact bodyPost_ret (v := bv .u32 (turP x (a, b, c))) (by kernel_rfl) rfl ⟨rfl, h5.old⟩

set_option linter.unusedVariables false in
set_option maxRecDepth 100000 in
set_option maxHeartbeats 2000000 in
theorem mbS (x : BitVec 32) (a b c : Nat) (ha : a ≤ 32) (hb : b ≤ 32) (hc : c ≤ 32) (w : World) :
    Calls Tryd.prog 39 #[bv .u32 x, .agg (tc a b c), iN .u64 32] w fun e w' => e = .returned (bv .u32 (movP x (a, b, c))) ∧ Below w.heap.size w w' := by
  have H0 := HA.start w
  go_enter Tryd.func39, Tryd.ntmps39
  refine wp_seq ?_
  -- region 0
  refine wl_region ?_
  refine wl_make H0 50 (by kernel_rfl) (run_box34 (c := tc a b c) (by kernel_rfl)) ?_
  intro q1 w2 h3
  refine wl_val (iN .u32 0) (by kernel_rfl) (by kernel_rfl) ?_
  refine wl_nil ?_
  refine then_at (F := ⟨(bv .u32 x :: .agg (tc a b c) :: iN .u64 32 :: un :: pt q1 :: un :: iN .u32 0 :: List.replicate 16 un).toArray, []⟩) (by kernel_rfl) ?_
  refine wp_seq ?_
  -- region 1
  refine wp_region_sure ⟨(bv .u32 x :: .agg (tc a b c) :: iN .u64 32 :: un :: pt q1 :: un :: bv .u32 (((rotP x a) ^^^ (rotP x b)) ^^^ (x >>> c)) :: bv .u32 x :: pt q1 :: iN .u64 a :: iN .u64 32 :: bv .u32 (rotP x a) :: bv .u32 x :: .pointer (some ⟨q1, 1, none⟩) :: iN .u64 b :: iN .u64 32 :: bv .u32 (rotP x b) :: bv .u32 ((rotP x a) ^^^ (rotP x b)) :: bv .u32 x :: .pointer (some ⟨q1, 2, none⟩) :: iN .u64 c :: bv .u32 (x >>> c) :: bv .u32 (((rotP x a) ^^^ (rotP x b)) ^^^ (x >>> c)) :: List.replicate 0 un).toArray, []⟩ (HA w [(q1, 50, tc a b c)]) [bv .u32 x, .pointer (some ⟨q1, 0, none⟩), iN .u64 a, iN .u64 32, bv .u32 (rotP x a), bv .u32 x, .pointer (some ⟨q1, 1, none⟩), iN .u64 b, iN .u64 32, bv .u32 (rotP x b), bv .u32 ((rotP x a) ^^^ (rotP x b)), bv .u32 x, .pointer (some ⟨q1, 2, none⟩), iN .u64 c, bv .u32 (x >>> c), bv .u32 (((rotP x a) ^^^ (rotP x b)) ^^^ (x >>> c)), bv .u32 (((rotP x a) ^^^ (rotP x b)) ^^^ (x >>> c))] (by kernel_rfl) (by kernel_rfl) (by kernel_rfl) (by kernel_rfl) (fun _ _ _ h => h) h3.drew ?_ ?_
  · refine AllSure.cons (OpSure.take (v := bv .u32 x) (by kernel_rfl) (by kernel_rfl) (fun _ _ => (by kernel_rfl))) ?_
    refine AllSure.cons (OpSure.take (v := .pointer (some ⟨q1, 0, none⟩)) (by kernel_rfl) (by kernel_rfl) (fun _ _ => (by kernel_rfl))) ?_
    refine AllSure.cons (OpSure.take (v := iN .u64 a) (by kernel_rfl) (by kernel_rfl) (fun _ h => run_load1 (fun w => Tryd.isAgg46 w) (by kernel_rfl) (((h.get 0 rfl).cell 0).trans (by kernel_rfl)))) ?_
    refine AllSure.cons (OpSure.take (v := iN .u64 32) (by kernel_rfl) (by kernel_rfl) (fun _ _ => (by kernel_rfl))) ?_
    refine AllSure.cons (sure_call (v := bv .u32 (rotP x a)) (by kernel_rfl) (by kernel_rfl) enter40 HA.keep #[bv .u32 x, iN .u64 a, iN .u64 32] (by kernel_rfl) (fun w' h' => rotS x a (by omega) w')) ?_
    refine AllSure.cons (OpSure.take (v := bv .u32 x) (by kernel_rfl) (by kernel_rfl) (fun _ _ => (by kernel_rfl))) ?_
    refine AllSure.cons (OpSure.take (v := .pointer (some ⟨q1, 1, none⟩)) (by kernel_rfl) (by kernel_rfl) (fun _ _ => (by kernel_rfl))) ?_
    refine AllSure.cons (OpSure.take (v := iN .u64 b) (by kernel_rfl) (by kernel_rfl) (fun _ h => run_load1 (fun w => Tryd.isAgg46 w) (by kernel_rfl) (((h.get 0 rfl).cell 1).trans (by kernel_rfl)))) ?_
    refine AllSure.cons (OpSure.take (v := iN .u64 32) (by kernel_rfl) (by kernel_rfl) (fun _ _ => (by kernel_rfl))) ?_
    refine AllSure.cons (sure_call (v := bv .u32 (rotP x b)) (by kernel_rfl) (by kernel_rfl) enter40 HA.keep #[bv .u32 x, iN .u64 b, iN .u64 32] (by kernel_rfl) (fun w' h' => rotS x b (by omega) w')) ?_
    refine AllSure.cons (OpSure.take (v := bv .u32 ((rotP x a) ^^^ (rotP x b))) (by kernel_rfl) (by kernel_rfl) (fun _ _ => (run_xorv WK.s (a := rotP x a) (b := rotP x b) (by kernel_rfl) (by kernel_rfl)))) ?_
    refine AllSure.cons (OpSure.take (v := bv .u32 x) (by kernel_rfl) (by kernel_rfl) (fun _ _ => (by kernel_rfl))) ?_
    refine AllSure.cons (OpSure.take (v := .pointer (some ⟨q1, 2, none⟩)) (by kernel_rfl) (by kernel_rfl) (fun _ _ => (by kernel_rfl))) ?_
    refine AllSure.cons (OpSure.take (v := iN .u64 c) (by kernel_rfl) (by kernel_rfl) (fun _ h => run_load1 (fun w => Tryd.isAgg46 w) (by kernel_rfl) (((h.get 0 rfl).cell 2).trans (by kernel_rfl)))) ?_
    refine AllSure.cons (OpSure.take (v := bv .u32 (x >>> c)) (by kernel_rfl) (by kernel_rfl) (fun _ _ => (run_shrv (k2 := .u64) (m := c) WK.s (a := x) (by kernel_rfl) (by kernel_rfl)))) ?_
    refine AllSure.cons (OpSure.take (v := bv .u32 (((rotP x a) ^^^ (rotP x b)) ^^^ (x >>> c))) (by kernel_rfl) (by kernel_rfl) (fun _ _ => (run_xorv WK.s (a := (rotP x a) ^^^ (rotP x b)) (b := x >>> c) (by kernel_rfl) (by kernel_rfl)))) ?_
    refine AllSure.cons (OpSure.take (v := bv .u32 (((rotP x a) ^^^ (rotP x b)) ^^^ (x >>> c))) (by kernel_rfl) (by kernel_rfl) (fun _ _ => (by kernel_rfl))) ?_
    exact AllSure.nil
  intro w4 h5
  refine then_at (F := ⟨(bv .u32 x :: .agg (tc a b c) :: iN .u64 32 :: un :: pt q1 :: un :: bv .u32 (((rotP x a) ^^^ (rotP x b)) ^^^ (x >>> c)) :: bv .u32 x :: pt q1 :: iN .u64 a :: iN .u64 32 :: bv .u32 (rotP x a) :: bv .u32 x :: .pointer (some ⟨q1, 1, none⟩) :: iN .u64 b :: iN .u64 32 :: bv .u32 (rotP x b) :: bv .u32 ((rotP x a) ^^^ (rotP x b)) :: bv .u32 x :: .pointer (some ⟨q1, 2, none⟩) :: iN .u64 c :: bv .u32 (x >>> c) :: bv .u32 (((rotP x a) ^^^ (rotP x b)) ^^^ (x >>> c)) :: List.replicate 0 un).toArray, []⟩) (by kernel_rfl) ?_
  refine wp_ret ?_
  repeat first | refine then_ret ?_ | refine block_ret ?_
  exact bodyPost_ret (v := bv .u32 (movP x (a, b, c))) (by kernel_rfl) rfl ⟨rfl, h5.old⟩

theorem beg_stepS (k : Nat) (hk : k < 8) : (begP 32).take (k + 1) = (begP 32).take k ++ [cutP 32 (fws.getD k 0)] :=
  (by decide +kernel : ∀ k : Fin 8, (begP 32).take (k.1 + 1) = (begP 32).take k.1 ++ [cutP 32 (fws.getD k.1 0)]) ⟨k, hk⟩
theorem beg_lenS (k : Nat) (hk : k ≤ 8) : ((begP 32).take k ++ List.replicate (8 - k) 0).length = 8 := by
  rw [pad_len, List.length_take, begP_len]; omega

set_option linter.unusedVariables false in
set_option maxRecDepth 100000 in
set_option maxHeartbeats 2000000 in
theorem begS (w : World) (VV : Vars w) :
    Calls Tryd.prog 31 #[iN .u64 32] w fun e w' => e = .returned (.agg (wc .u32 (begP 32))) ∧ Below w.heap.size w w' := by
  have H0 := HA.start w
  go_enter Tryd.func31, Tryd.ntmps31
  refine wp_seq ?_
  -- region 0
  refine wl_region ?_
  refine wl_make H0 53 (by kernel_rfl) run_alloc37 ?_
  intro q1 w2 h3
  refine wl_nil ?_
  refine then_at (F := ⟨(iN .u64 32 :: un :: pt q1 :: List.replicate 15 un).toArray, []⟩) (by kernel_rfl) ?_
  refine wp_seq ?_
  -- region 1
  refine wl_region ?_
  refine wl_make h3 53 (by kernel_rfl) run_alloc37 ?_
  intro q4 w5 h6
  refine wl_nil ?_
  refine then_at (F := ⟨(iN .u64 32 :: un :: pt q1 :: pt q4 :: List.replicate 14 un).toArray, []⟩) (by kernel_rfl) ?_
  refine wp_seq ?_
  refine wp_seq ?_
  -- region 2
  refine wl_region ?_
  refine wl_val (.agg (wc .u64 fws)) (by kernel_rfl) (run_load_range (q := 1) (by kernel_rfl) (VV.below h6.old VV.big).f Tryd.underlying64 rfl (info43 .u64 fws (show fws.length = 8 from rfl))) ?_
  refine wl_val (iN .i64 0) (by kernel_rfl) (by kernel_rfl) ?_
  refine wl_nil ?_
  refine then_at (F := ⟨(iN .u64 32 :: un :: pt q1 :: pt q4 :: un :: un :: .agg (wc .u64 fws) :: iN .i64 0 :: List.replicate 10 un).toArray, []⟩) (by kernel_rfl) ?_
  refine wp_block ?_
  refine wp_count (fun k A w' => ∃ u7 : Nat → Value, A = ⟨(iN .u64 32 :: un :: pt q1 :: pt q4 :: u7 4 :: u7 5 :: .agg (wc .u64 fws) :: iN .i64 k :: u7 8 :: u7 9 :: u7 10 :: u7 11 :: u7 12 :: u7 13 :: u7 14 :: u7 15 :: u7 16 :: List.replicate 1 un).toArray, []⟩ ∧ HA w [(q4, 53, wc .u32 ((begP 32).take k ++ List.replicate (8 - k) 0)), (q1, 53, wc .u32 (List.replicate 8 (0 : BitVec 32)))] w') 8 ?_ ?_ ?_
  · exact ⟨fun ii => (([(4, undef), (5, undef), (8, undef), (9, undef), (10, undef), (11, undef), (12, undef), (13, undef), (14, undef), (15, undef), (16, undef)] : List (Nat × Value)).find? (·.1 == ii)).elim undef (·.2), by kernel_rfl, (by have h := h6; exact h)⟩
  · rintro k hk _ w8 ⟨u7, rfl, h9⟩
    refine wp_seq ?_
    -- region 3
    refine wl_region ?_
    refine wl_val (.bool true) (by kernel_rfl) (run_lss (k := .i64) (a := k) (b := 8) (by kernel_rfl) (by kernel_rfl) true (decide_eq_true hk)) ?_
    refine wl_nil ?_
    refine then_at (F := ⟨(iN .u64 32 :: un :: pt q1 :: pt q4 :: u7 4 :: u7 5 :: .agg (wc .u64 fws) :: iN .i64 k :: .bool true :: u7 9 :: u7 10 :: u7 11 :: u7 12 :: u7 13 :: u7 14 :: u7 15 :: u7 16 :: List.replicate 1 un).toArray, []⟩) (by kernel_rfl) ?_
    refine wp_seq ?_
    refine wp_cond_true (by kernel_rfl) ?_
    refine wp_skip ?_
    refine then_at (F := ⟨(iN .u64 32 :: un :: pt q1 :: pt q4 :: u7 4 :: u7 5 :: .agg (wc .u64 fws) :: iN .i64 k :: .bool true :: u7 9 :: u7 10 :: u7 11 :: u7 12 :: u7 13 :: u7 14 :: u7 15 :: u7 16 :: List.replicate 1 un).toArray, []⟩) (by kernel_rfl) ?_
    refine wp_seq ?_
    refine wp_block ?_
    refine wp_seq ?_
    -- region 4
    refine wl_region ?_
    refine wl_val (iN .i64 k) (by kernel_rfl) (by kernel_rfl) ?_
    refine wl_val (bv .u64 (fws.getD k 0)) (by kernel_rfl) (run_index43 (i := k) (by kernel_rfl) (by kernel_rfl) (by omega) (wc_get .u64 fws k (by rw [(show fws.length = 8 from rfl)]; omega))) ?_
    refine wl_val (iN .i64 k) (by kernel_rfl) (by kernel_rfl) ?_
    refine wl_val (bv .u64 (fws.getD k 0)) (by kernel_rfl) (by kernel_rfl) ?_
    refine wl_nil ?_
    refine then_at (F := ⟨(iN .u64 32 :: un :: pt q1 :: pt q4 :: iN .i64 k :: bv .u64 (fws.getD k 0) :: .agg (wc .u64 fws) :: iN .i64 k :: .bool true :: iN .i64 k :: bv .u64 (fws.getD k 0) :: u7 11 :: u7 12 :: u7 13 :: u7 14 :: u7 15 :: u7 16 :: List.replicate 1 un).toArray, []⟩) (by kernel_rfl) ?_
    -- region 5
    refine wl_region ?_
    refine wl_val (iN .i64 k) (by kernel_rfl) (by kernel_rfl) ?_
    refine wl_val (bv .u64 (fws.getD k 0)) (by kernel_rfl) (by kernel_rfl) ?_
    refine wl_val (iN .u64 32) (by kernel_rfl) (by kernel_rfl) ?_
    refine wl_call (v := bv .u32 (cutP 32 (fws.getD k 0))) h9 (by kernel_rfl) enter36 #[bv .u64 (fws.getD k 0), iN .u64 32] (by kernel_rfl) (cutS (fws.getD k 0) w8) ?_
    intro w10 h11
    refine wl_val (.pointer (some ⟨q4, k, none⟩)) (by kernel_rfl) (run_addr_arr (q := q4) (a := k) Tryd.underlying53 (fun w => Tryd.sizeOf48 w) (by kernel_rfl) (by kernel_rfl) (by omega)) ?_
    refine wl_put (k := .u32) (z := (((cutP 32 (fws.getD k 0)).toNat : Nat) : Int)) h11 0 rfl k (by rw [wc_size, (beg_lenS k (by omega))]; omega) (by kernel_rfl) (fun w => Tryd.sizeOf48 w) (by kernel_rfl) (by kernel_rfl) ?_
    intro w12 h13
    have h14 : HA w [(q4, 53, wc .u32 ((begP 32).take (k + 1) ++ List.replicate (8 - (k + 1)) 0)), (q1, 53, wc .u32 (List.replicate 8 (0 : BitVec 32)))] w12 := by
      have e : (wc .u32 ((begP 32).take k ++ List.replicate (8 - k) 0)).setIfInBounds k (.int .u32 (((cutP 32 (fws.getD k 0)).toNat : Nat) : Int)) = wc .u32 ((begP 32).take (k + 1) ++ List.replicate (8 - (k + 1)) 0) := (by rw [beg_stepS k hk]; exact pad_put .u32 ((begP 32).take k) (8 - k) (8 - (k + 1)) k (cutP 32 (fws.getD k 0)) (by rw [List.length_take, begP_len]; omega) (by omega))
      rw [← e]; exact h13
    clear h13
    refine wl_nil ?_
    refine block_normal ?_
    refine then_at (F := ⟨(iN .u64 32 :: un :: pt q1 :: pt q4 :: iN .i64 k :: bv .u64 (fws.getD k 0) :: .agg (wc .u64 fws) :: iN .i64 k :: .bool true :: iN .i64 k :: bv .u64 (fws.getD k 0) :: iN .i64 k :: bv .u64 (fws.getD k 0) :: iN .u64 32 :: bv .u32 (cutP 32 (fws.getD k 0)) :: .pointer (some ⟨q4, k, none⟩) :: u7 16 :: List.replicate 1 un).toArray, []⟩) (by kernel_rfl) ?_
    -- region 6
    refine wl_region ?_
    refine wl_val (iN .i64 (k + 1)) (by kernel_rfl) (run_add (k := .i64) (a := k) (b := 1) (by kernel_rfl) (by kernel_rfl) (by simp only [top]; omega)) ?_
    refine wl_val (iN .i64 (k + 1)) (by kernel_rfl) (by kernel_rfl) ?_
    refine wl_nil ?_
    exact then_I ⟨fun ii => (([(4, iN .i64 k), (5, bv .u64 (fws.getD k 0)), (8, .bool true), (9, iN .i64 k), (10, bv .u64 (fws.getD k 0)), (11, iN .i64 k), (12, bv .u64 (fws.getD k 0)), (13, iN .u64 32), (14, bv .u32 (cutP 32 (fws.getD k 0))), (15, .pointer (some ⟨q4, k, none⟩)), (16, iN .i64 (k + 1))] : List (Nat × Value)).find? (·.1 == ii)).elim undef (·.2), by kernel_rfl, h14⟩
  · rintro _ w15 ⟨u7, rfl, h16⟩
    refine wp_seq ?_
    -- region 3
    refine wl_region ?_
    refine wl_val (.bool false) (by kernel_rfl) (run_lss (k := .i64) (a := 8) (b := 8) (by kernel_rfl) (by kernel_rfl) false (by decide)) ?_
    refine wl_nil ?_
    refine then_at (F := ⟨(iN .u64 32 :: un :: pt q1 :: pt q4 :: u7 4 :: u7 5 :: .agg (wc .u64 fws) :: iN .i64 8 :: .bool false :: u7 9 :: u7 10 :: u7 11 :: u7 12 :: u7 13 :: u7 14 :: u7 15 :: u7 16 :: List.replicate 1 un).toArray, []⟩) (by kernel_rfl) ?_
    refine wp_seq ?_
    refine wp_cond_false (by kernel_rfl) ?_
    refine wp_exit ?_
    repeat first | refine then_exit ?_ | refine block_exit ?_ | refine block_exit_ne (by decide) ?_
    refine then_at (F := ⟨(iN .u64 32 :: un :: pt q1 :: pt q4 :: u7 4 :: u7 5 :: .agg (wc .u64 fws) :: iN .i64 8 :: .bool false :: u7 9 :: u7 10 :: u7 11 :: u7 12 :: u7 13 :: u7 14 :: u7 15 :: u7 16 :: List.replicate 1 un).toArray, []⟩) (by kernel_rfl) ?_
    refine wp_seq ?_
    -- region 7
    refine wl_region ?_
    refine wl_load h16 0 rfl (by kernel_rfl) (by kernel_rfl) Tryd.underlying53 rfl (info37 .u32 ((begP 32).take 8 ++ List.replicate (8 - 8) 0) (beg_lenS 8 (by omega))) ?_
    refine wl_fill (c' := wc .u32 ((begP 32).take 8 ++ List.replicate (8 - 8) 0)) h16 1 rfl (by kernel_rfl) (by kernel_rfl) (by kernel_rfl) (by rw [wc_size, wc_size, (beg_lenS 8 (by omega)), (List.length_replicate)]) (info37 .u32 ((begP 32).take 8 ++ List.replicate (8 - 8) 0) (beg_lenS 8 (by omega))) (one_wc .u32 ((begP 32).take 8 ++ List.replicate (8 - 8) 0)) ?_
    intro w17 (h18 : HA w [(q4, 53, wc .u32 ((begP 32).take 8 ++ List.replicate (8 - 8) 0)), (q1, 53, wc .u32 ((begP 32).take 8 ++ List.replicate (8 - 8) 0))] w17)
    refine wl_nil ?_
    refine then_at (F := ⟨(iN .u64 32 :: un :: pt q1 :: pt q4 :: u7 4 :: u7 5 :: .agg (wc .u64 fws) :: iN .i64 8 :: .bool false :: u7 9 :: u7 10 :: u7 11 :: u7 12 :: u7 13 :: u7 14 :: u7 15 :: u7 16 :: .agg (wc .u32 ((begP 32).take 8 ++ List.replicate (8 - 8) 0)) :: List.replicate 0 un).toArray, []⟩) (by kernel_rfl) ?_
    refine wp_ret ?_
    repeat first | refine then_ret ?_ | refine block_ret ?_
    exact bodyPost_ret (v := .agg (wc .u32 (begP 32))) (res_cell (p := 2) (by kernel_rfl) (by kernel_rfl) (h18.get 1 rfl) Tryd.underlying53 rfl (info37 .u32 _ (begP_len 32))) rfl ⟨rfl, h18.old⟩

theorem beg_stepL (k : Nat) (hk : k < 8) : (begP 64).take (k + 1) = (begP 64).take k ++ [cutP 64 (fws.getD k 0)] :=
  (by decide +kernel : ∀ k : Fin 8, (begP 64).take (k.1 + 1) = (begP 64).take k.1 ++ [cutP 64 (fws.getD k.1 0)]) ⟨k, hk⟩
theorem beg_lenL (k : Nat) (hk : k ≤ 8) : ((begP 64).take k ++ List.replicate (8 - k) 0).length = 8 := by
  rw [pad_len, List.length_take, begP_len]; omega

end Go.Proofs.YtmlldbkhphngeaaDoor
