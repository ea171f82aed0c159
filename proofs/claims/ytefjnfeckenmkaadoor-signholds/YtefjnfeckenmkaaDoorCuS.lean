/-
  a point's Of.
-/
import Derived.Test.YtefjnfeckenmkaaDoorC1
namespace Go.Proofs.YtefjnfeckenmkaaDoor
open Go.RowKit Num

def zCuS_0 (s : ByteArray) q1 (zx4 zx5 : Value) (zt : List Value) := (.string s :: un :: pt q1 :: .bool false :: zx4 :: zx5 :: un :: un :: un :: .string s :: iN .i64 s.size :: .bool false :: zt : List Value)
def zCuS_1 (s : ByteArray) q1 q8 (y : Nat) (zx8 : Value) (zt : List Value) := (.string s :: un :: pt q1 :: .bool false :: .string (topS s) :: .bool true :: pt q8 :: .bool true :: zx8 :: .string s :: iN .i64 s.size :: .bool false :: un :: .tuple #[.string (topS s), .bool true] :: .string s :: .tuple #[.string (topS s), .bool true] :: .string (topS s) :: .bool true :: .tuple #[arr y, .bool true] :: .string (topS s) :: .tuple #[arr y, .bool true] :: arr y :: .bool true :: zt : List Value)
def zCuS_2 (s : ByteArray) q1 q8 q15 (y : Nat) (rt : Nat) (zx3 : Value) (zt : List Value) := (.string s :: un :: pt q1 :: zx3 :: .string (topS s) :: .bool true :: pt q8 :: .bool true :: pt q15 :: .string s :: iN .i64 s.size :: .bool false :: un :: .tuple #[.string (topS s), .bool true] :: .string s :: .tuple #[.string (topS s), .bool true] :: .string (topS s) :: .bool true :: .tuple #[arr y, .bool true] :: .string (topS s) :: .tuple #[arr y, .bool true] :: arr y :: .bool true :: .bool true :: .bool false :: un :: .tuple #[arr rt, .bool true] :: arr y :: .tuple #[arr rt, .bool true] :: arr rt :: .bool true :: .bool true :: .bool false :: .bool false :: .bool true :: .bool true :: arr rt :: arr 0 :: .bool false :: .bool false :: .bool false :: zt : List Value)
set_option linter.unusedVariables false in
set_option maxRecDepth 100000 in
set_option maxHeartbeats 2000000 in
theorem POf_yes_odd (s : ByteArray) (hs : s.size = 32) (y : Nat) (hy : y < P) (hof : ofP (topS s) = some y) (rt : Nat) (hr : rt < P) (hroot : rootP (bsq y) = some rt) (hbit : numS s / 2 ^ 255 % 2 = 1) (hrt : rt ≠ 0) (w : World) (VV : Vars w) :
    Calls Tryd.prog 26 #[.string s] w fun e w' => e = .returned (.tuple #[.agg (pr (negP rt) (subP y 1)), .bool true]) ∧ Below w.heap.size w w' := by
  have H0 := HA.start w
  go_enter Tryd.func26, Tryd.ntmps26
  refine wp_seq ?_
  refine wl_region ?_
  refine wl_make H0 39 (by kernel_rfl) run_alloc27 ?_
  intro q1 w2 h3
  refine wl_val (.bool false) (by kernel_rfl) (by kernel_rfl) ?_
  refine wl_nil ?_
  refine then_at (F := ⟨(.string s :: un :: pt q1 :: .bool false :: List.replicate 44 un).toArray, []⟩) (by kernel_rfl) ?_
  refine wp_seq ?_
  refine wp_seq ?_
  refine wl_region ?_
  refine wl_val (.string s) (by kernel_rfl) (by kernel_rfl) ?_
  refine wl_val (iN .i64 s.size) (by kernel_rfl) (run_len (s := s) (by kernel_rfl)) ?_
  refine wl_val (.bool false) (by kernel_rfl) (run_nei (k := .i64) (a := s.size) (b := 32) (by kernel_rfl) (by kernel_rfl) false (decide_eq_false (fun hh => hh hs))) ?_
  refine wl_nil ?_
  refine then_at (F := ⟨(zCuS_0 s q1 un un (List.replicate 36 un)).toArray, []⟩) (by kernel_rfl) ?_
  refine wp_cond_false (by kernel_rfl) ?_
  refine wp_skip ?_
  refine then_at (F := ⟨(zCuS_0 s q1 un un (List.replicate 36 un)).toArray, []⟩) (by kernel_rfl) ?_
  refine wp_seq ?_
  refine wl_region ?_
  refine wl_val (.string s) (by kernel_rfl) (by kernel_rfl) ?_
  refine wl_call (v := .tuple #[.string (topS s), .bool true]) h3 (by kernel_rfl) enter37 #[.string s] (by kernel_rfl) ((by have hz := withoutTop_any s hs w2; rw [decide_eq_true hbit] at hz; exact hz)) ?_
  intro w4 h5
  refine wl_val (.tuple #[.string (topS s), .bool true]) (by kernel_rfl) (by kernel_rfl) ?_
  refine wl_val (.string (topS s)) (by kernel_rfl) (by kernel_rfl) ?_
  refine wl_val (.bool true) (by kernel_rfl) (by kernel_rfl) ?_
  refine wl_val (.string (topS s)) (by kernel_rfl) (by kernel_rfl) ?_
  refine wl_val (.bool true) (by kernel_rfl) (by kernel_rfl) ?_
  refine wl_nil ?_
  refine then_at (F := ⟨(zCuS_0 s q1 (.string (topS s)) (.bool true) (un :: .tuple #[.string (topS s), .bool true] :: .string s :: .tuple #[.string (topS s), .bool true] :: .string (topS s) :: .bool true :: List.replicate 30 un)).toArray, []⟩) (by kernel_rfl) ?_
  refine wp_seq ?_
  refine wl_region ?_
  refine wl_val (.string (topS s)) (by kernel_rfl) (by kernel_rfl) ?_
  refine wl_call (v := .tuple #[arr y, .bool true]) h5 (by kernel_rfl) enter38 #[.string (topS s)] (by kernel_rfl) (Of_yes (topS s) hof w4 (VV.below h5.old VV.big)) ?_
  intro w6 h7
  refine wl_val (.tuple #[arr y, .bool true]) (by kernel_rfl) (by kernel_rfl) ?_
  refine wl_val (arr y) (by kernel_rfl) (by kernel_rfl) ?_
  refine wl_val (.bool true) (by kernel_rfl) (by kernel_rfl) ?_
  refine wl_make h7 37 (by kernel_rfl) run_alloc25 ?_
  intro q8 w9 h10
  refine wl_fill (c' := el y) h10 0 rfl (by kernel_rfl) (by kernel_rfl) (by kernel_rfl) (el_sz _ _) (info_el _) (one_el _) ?_
  intro w11 (h12 : HA w [(q8, 37, el y), (q1, 39, pr 0 0)] w11)
  refine wl_val (.bool true) (by kernel_rfl) (by kernel_rfl) ?_
  refine wl_nil ?_
  refine then_at (F := ⟨(zCuS_1 s q1 q8 y un (List.replicate 25 un)).toArray, []⟩) (by kernel_rfl) ?_
  refine wp_seq ?_
  refine wp_seq ?_
  refine wl_region ?_
  refine wl_val (.bool true) (by kernel_rfl) (by kernel_rfl) ?_
  refine wl_val (.bool false) (by kernel_rfl) (by kernel_rfl) ?_
  refine wl_nil ?_
  refine then_at (F := ⟨(zCuS_1 s q1 q8 y un (.bool true :: .bool false :: List.replicate 23 un)).toArray, []⟩) (by kernel_rfl) ?_
  refine wp_cond_false (by kernel_rfl) ?_
  refine wp_skip ?_
  refine then_at (F := ⟨(zCuS_1 s q1 q8 y un (.bool true :: .bool false :: List.replicate 23 un)).toArray, []⟩) (by kernel_rfl) ?_
  refine wp_seq ?_
  refine wl_region ?_
  refine wl_load h12 0 rfl (by kernel_rfl) (by kernel_rfl) Tryd.underlying37 rfl (info_el _) ?_
  refine wl_call (v := .tuple #[arr rt, .bool true]) h12 (by kernel_rfl) enter39 #[arr y] (by kernel_rfl) (beside_yes y hy rt hr hroot w11 (VV.below h12.old VV.big)) ?_
  intro w13 h14
  refine wl_val (.tuple #[arr rt, .bool true]) (by kernel_rfl) (by kernel_rfl) ?_
  refine wl_val (arr rt) (by kernel_rfl) (by kernel_rfl) ?_
  refine wl_val (.bool true) (by kernel_rfl) (by kernel_rfl) ?_
  refine wl_make h14 37 (by kernel_rfl) run_alloc25 ?_
  intro q15 w16 h17
  refine wl_fill (c' := el rt) h17 0 rfl (by kernel_rfl) (by kernel_rfl) (by kernel_rfl) (el_sz _ _) (info_el _) (one_el _) ?_
  intro w18 (h19 : HA w [(q15, 37, el rt), (q8, 37, el y), (q1, 39, pr 0 0)] w18)
  refine wl_val (.bool true) (by kernel_rfl) (by kernel_rfl) ?_
  refine wl_nil ?_
  refine then_at (F := ⟨(zCuS_1 s q1 q8 y (pt q15) (.bool true :: .bool false :: un :: .tuple #[arr rt, .bool true] :: arr y :: .tuple #[arr rt, .bool true] :: arr rt :: .bool true :: List.replicate 17 un)).toArray, []⟩) (by kernel_rfl) ?_
  refine wp_seq ?_
  refine wp_seq ?_
  refine wp_region_sure ⟨(zCuS_2 s q1 q8 q15 y rt (.bool false) (List.replicate 7 un)).toArray, []⟩ (HA w [(q15, 37, el rt), (q8, 37, el y), (q1, 39, pr 0 0)]) [.bool true, .bool false, .bool false, .bool true, .bool true, arr rt, arr 0, .bool false, .bool false, .bool false] (by kernel_rfl) (by kernel_rfl) (by kernel_rfl) (by kernel_rfl) (fun _ _ _ h => h) h19.drew ?_ ?_
  · refine AllSure.cons (OpSure.take (v := .bool true) (by kernel_rfl) (by kernel_rfl) (fun _ _ => (by kernel_rfl))) ?_
    refine AllSure.cons (OpSure.take (v := .bool false) (by kernel_rfl) (by kernel_rfl) (fun _ _ => (by kernel_rfl))) ?_
    refine AllSure.cons (OpSure.take (v := .bool false) (by kernel_rfl) (by kernel_rfl) (fun _ _ => (by kernel_rfl))) ?_
    refine AllSure.cons (OpSure.take (v := .bool true) (by kernel_rfl) (by kernel_rfl) (fun _ _ => (by kernel_rfl))) ?_
    refine AllSure.cons (OpSure.take (v := .bool true) (by kernel_rfl) (by kernel_rfl) (fun _ _ => (by kernel_rfl))) ?_
    refine AllSure.cons (OpSure.take (v := arr rt) (by kernel_rfl) (by kernel_rfl) (fun _ h => run_load_blk (by kernel_rfl) (h.get 0 rfl) Tryd.underlying37 rfl (info_el _))) ?_
    refine AllSure.cons (sure_call (v := arr 0) (by kernel_rfl) (by kernel_rfl) enter41 HA.keep #[iN .u32 0] (by kernel_rfl) (fun w' h' => Small_any 0 (by decide) w')) ?_
    refine AllSure.cons (sure_call (v := .bool false) (by kernel_rfl) (by kernel_rfl) enter40 HA.keep #[arr rt, arr 0] (by kernel_rfl) (fun w' h' => Same_no rt 0 hr (by decide) hrt w')) ?_
    refine AllSure.cons (OpSure.take (v := .bool false) (by kernel_rfl) (by kernel_rfl) (fun _ _ => (by kernel_rfl))) ?_
    refine AllSure.cons (OpSure.take (v := .bool false) (by kernel_rfl) (by kernel_rfl) (fun _ _ => (by kernel_rfl))) ?_
    exact AllSure.nil
  intro w20 h21
  refine then_at (F := ⟨(zCuS_2 s q1 q8 q15 y rt (.bool false) (List.replicate 7 un)).toArray, []⟩) (by kernel_rfl) ?_
  refine wp_cond_false (by kernel_rfl) ?_
  refine wp_skip ?_
  refine then_at (F := ⟨(zCuS_2 s q1 q8 q15 y rt (.bool false) (List.replicate 7 un)).toArray, []⟩) (by kernel_rfl) ?_
  refine wp_seq ?_
  refine wp_seq ?_
  refine wl_region ?_
  refine wl_val (.bool true) (by kernel_rfl) (by kernel_rfl) ?_
  refine wl_nil ?_
  refine then_at (F := ⟨(zCuS_2 s q1 q8 q15 y rt (.bool false) (un :: .bool true :: List.replicate 5 un)).toArray, []⟩) (by kernel_rfl) ?_
  refine wp_cond_true (by kernel_rfl) ?_
  refine wl_region ?_
  refine wl_load h21 0 rfl (by kernel_rfl) (by kernel_rfl) Tryd.underlying37 rfl (info_el _) ?_
  refine wl_call (v := arr (negP rt)) h21 (by kernel_rfl) enter42 #[arr rt] (by kernel_rfl) (Neg_any rt hr w20 (VV.below h21.old VV.big)) ?_
  intro w22 h23
  refine wl_fill (c' := el (negP rt)) h23 0 rfl (by kernel_rfl) (by kernel_rfl) (by kernel_rfl) (el_sz _ _) (info_el _) (one_el _) ?_
  intro w24 (h25 : HA w [(q15, 37, el (negP rt)), (q8, 37, el y), (q1, 39, pr 0 0)] w24)
  refine wl_nil ?_
  refine then_at (F := ⟨(zCuS_2 s q1 q8 q15 y rt (.bool false) (un :: .bool true :: arr rt :: arr (negP rt) :: List.replicate 3 un)).toArray, []⟩) (by kernel_rfl) ?_
  refine wp_seq ?_
  refine wl_region ?_
  refine wl_load h25 0 rfl (by kernel_rfl) (by kernel_rfl) Tryd.underlying37 rfl (info_el _) ?_
  refine wl_load h25 1 rfl (by kernel_rfl) (by kernel_rfl) Tryd.underlying37 rfl (info_el _) ?_
  refine wl_call (v := .agg (pr (negP rt) (subP y 1))) h25 (by kernel_rfl) enter43 #[arr (negP rt), arr y] (by kernel_rfl) (at_any (negP rt) y (negP_lt _) hy w24 (VV.below h25.old VV.big)) ?_
  intro w26 h27
  refine wl_fill (c' := pr (negP rt) (subP y 1)) h27 2 rfl (by kernel_rfl) (by kernel_rfl) (by kernel_rfl) (pr_sz (negP rt) (subP y 1) 0 0) (info27p (negP rt) (subP y 1)) (one_pr (negP rt) (subP y 1)) ?_
  intro w28 (h29 : HA w [(q15, 37, el (negP rt)), (q8, 37, el y), (q1, 39, pr (negP rt) (subP y 1))] w28)
  refine wl_val (.bool true) (by kernel_rfl) (by kernel_rfl) ?_
  refine wl_nil ?_
  refine then_at (F := ⟨(zCuS_2 s q1 q8 q15 y rt (.bool true) (un :: .bool true :: arr rt :: arr (negP rt) :: arr (negP rt) :: arr y :: .agg (pr (negP rt) (subP y 1)) :: [])).toArray, []⟩) (by kernel_rfl) ?_
  refine wp_ret ?_
  repeat first | refine then_ret ?_ | refine block_ret ?_
  exact bodyPost_ret (v := .tuple #[.agg (pr (negP rt) (subP y 1)), .bool true]) (res_cell_tmp (p := 2) (r := 3) (by kernel_rfl) (by kernel_rfl) (by kernel_rfl) (h29.get 2 rfl) Tryd.underlying39 rfl (info27p (negP rt) (subP y 1))) rfl ⟨rfl, h29.old⟩

def zCuS_3 (s : ByteArray) q1 (zx4 zx5 : Value) (zt : List Value) := (.string s :: un :: pt q1 :: .bool false :: zx4 :: zx5 :: un :: un :: un :: .string s :: iN .i64 s.size :: .bool false :: zt : List Value)
def zCuS_4 (s : ByteArray) q1 q8 (y : Nat) (zx8 : Value) (zt : List Value) := (.string s :: un :: pt q1 :: .bool false :: .string (topS s) :: .bool false :: pt q8 :: .bool true :: zx8 :: .string s :: iN .i64 s.size :: .bool false :: un :: .tuple #[.string (topS s), .bool false] :: .string s :: .tuple #[.string (topS s), .bool false] :: .string (topS s) :: .bool false :: .tuple #[arr y, .bool true] :: .string (topS s) :: .tuple #[arr y, .bool true] :: arr y :: .bool true :: zt : List Value)
def zCuS_5 (s : ByteArray) q1 q8 q15 (y : Nat) (rt : Nat) (zx3 : Value) (zt : List Value) := (.string s :: un :: pt q1 :: zx3 :: .string (topS s) :: .bool false :: pt q8 :: .bool true :: pt q15 :: .string s :: iN .i64 s.size :: .bool false :: un :: .tuple #[.string (topS s), .bool false] :: .string s :: .tuple #[.string (topS s), .bool false] :: .string (topS s) :: .bool false :: .tuple #[arr y, .bool true] :: .string (topS s) :: .tuple #[arr y, .bool true] :: arr y :: .bool true :: .bool true :: .bool false :: un :: .tuple #[arr rt, .bool true] :: arr y :: .tuple #[arr rt, .bool true] :: arr rt :: .bool true :: .bool true :: .bool false :: .bool false :: .bool false :: .bool false :: un :: un :: un :: .bool false :: .bool false :: zt : List Value)
set_option linter.unusedVariables false in
set_option maxRecDepth 100000 in
set_option maxHeartbeats 2000000 in
theorem POf_yes_even (s : ByteArray) (hs : s.size = 32) (y : Nat) (hy : y < P) (hof : ofP (topS s) = some y) (rt : Nat) (hr : rt < P) (hroot : rootP (bsq y) = some rt) (hbit : ¬ numS s / 2 ^ 255 % 2 = 1) (w : World) (VV : Vars w) :
    Calls Tryd.prog 26 #[.string s] w fun e w' => e = .returned (.tuple #[.agg (pr rt (subP y 1)), .bool true]) ∧ Below w.heap.size w w' := by
  have H0 := HA.start w
  go_enter Tryd.func26, Tryd.ntmps26
  refine wp_seq ?_
  refine wl_region ?_
  refine wl_make H0 39 (by kernel_rfl) run_alloc27 ?_
  intro q1 w2 h3
  refine wl_val (.bool false) (by kernel_rfl) (by kernel_rfl) ?_
  refine wl_nil ?_
  refine then_at (F := ⟨(.string s :: un :: pt q1 :: .bool false :: List.replicate 44 un).toArray, []⟩) (by kernel_rfl) ?_
  refine wp_seq ?_
  refine wp_seq ?_
  refine wl_region ?_
  refine wl_val (.string s) (by kernel_rfl) (by kernel_rfl) ?_
  refine wl_val (iN .i64 s.size) (by kernel_rfl) (run_len (s := s) (by kernel_rfl)) ?_
  refine wl_val (.bool false) (by kernel_rfl) (run_nei (k := .i64) (a := s.size) (b := 32) (by kernel_rfl) (by kernel_rfl) false (decide_eq_false (fun hh => hh hs))) ?_
  refine wl_nil ?_
  refine then_at (F := ⟨(zCuS_3 s q1 un un (List.replicate 36 un)).toArray, []⟩) (by kernel_rfl) ?_
  refine wp_cond_false (by kernel_rfl) ?_
  refine wp_skip ?_
  refine then_at (F := ⟨(zCuS_3 s q1 un un (List.replicate 36 un)).toArray, []⟩) (by kernel_rfl) ?_
  refine wp_seq ?_
  refine wl_region ?_
  refine wl_val (.string s) (by kernel_rfl) (by kernel_rfl) ?_
  refine wl_call (v := .tuple #[.string (topS s), .bool false]) h3 (by kernel_rfl) enter37 #[.string s] (by kernel_rfl) ((by have hz := withoutTop_any s hs w2; rw [decide_eq_false hbit] at hz; exact hz)) ?_
  intro w4 h5
  refine wl_val (.tuple #[.string (topS s), .bool false]) (by kernel_rfl) (by kernel_rfl) ?_
  refine wl_val (.string (topS s)) (by kernel_rfl) (by kernel_rfl) ?_
  refine wl_val (.bool false) (by kernel_rfl) (by kernel_rfl) ?_
  refine wl_val (.string (topS s)) (by kernel_rfl) (by kernel_rfl) ?_
  refine wl_val (.bool false) (by kernel_rfl) (by kernel_rfl) ?_
  refine wl_nil ?_
  refine then_at (F := ⟨(zCuS_3 s q1 (.string (topS s)) (.bool false) (un :: .tuple #[.string (topS s), .bool false] :: .string s :: .tuple #[.string (topS s), .bool false] :: .string (topS s) :: .bool false :: List.replicate 30 un)).toArray, []⟩) (by kernel_rfl) ?_
  refine wp_seq ?_
  refine wl_region ?_
  refine wl_val (.string (topS s)) (by kernel_rfl) (by kernel_rfl) ?_
  refine wl_call (v := .tuple #[arr y, .bool true]) h5 (by kernel_rfl) enter38 #[.string (topS s)] (by kernel_rfl) (Of_yes (topS s) hof w4 (VV.below h5.old VV.big)) ?_
  intro w6 h7
  refine wl_val (.tuple #[arr y, .bool true]) (by kernel_rfl) (by kernel_rfl) ?_
  refine wl_val (arr y) (by kernel_rfl) (by kernel_rfl) ?_
  refine wl_val (.bool true) (by kernel_rfl) (by kernel_rfl) ?_
  refine wl_make h7 37 (by kernel_rfl) run_alloc25 ?_
  intro q8 w9 h10
  refine wl_fill (c' := el y) h10 0 rfl (by kernel_rfl) (by kernel_rfl) (by kernel_rfl) (el_sz _ _) (info_el _) (one_el _) ?_
  intro w11 (h12 : HA w [(q8, 37, el y), (q1, 39, pr 0 0)] w11)
  refine wl_val (.bool true) (by kernel_rfl) (by kernel_rfl) ?_
  refine wl_nil ?_
  refine then_at (F := ⟨(zCuS_4 s q1 q8 y un (List.replicate 25 un)).toArray, []⟩) (by kernel_rfl) ?_
  refine wp_seq ?_
  refine wp_seq ?_
  refine wl_region ?_
  refine wl_val (.bool true) (by kernel_rfl) (by kernel_rfl) ?_
  refine wl_val (.bool false) (by kernel_rfl) (by kernel_rfl) ?_
  refine wl_nil ?_
  refine then_at (F := ⟨(zCuS_4 s q1 q8 y un (.bool true :: .bool false :: List.replicate 23 un)).toArray, []⟩) (by kernel_rfl) ?_
  refine wp_cond_false (by kernel_rfl) ?_
  refine wp_skip ?_
  refine then_at (F := ⟨(zCuS_4 s q1 q8 y un (.bool true :: .bool false :: List.replicate 23 un)).toArray, []⟩) (by kernel_rfl) ?_
  refine wp_seq ?_
  refine wl_region ?_
  refine wl_load h12 0 rfl (by kernel_rfl) (by kernel_rfl) Tryd.underlying37 rfl (info_el _) ?_
  refine wl_call (v := .tuple #[arr rt, .bool true]) h12 (by kernel_rfl) enter39 #[arr y] (by kernel_rfl) (beside_yes y hy rt hr hroot w11 (VV.below h12.old VV.big)) ?_
  intro w13 h14
  refine wl_val (.tuple #[arr rt, .bool true]) (by kernel_rfl) (by kernel_rfl) ?_
  refine wl_val (arr rt) (by kernel_rfl) (by kernel_rfl) ?_
  refine wl_val (.bool true) (by kernel_rfl) (by kernel_rfl) ?_
  refine wl_make h14 37 (by kernel_rfl) run_alloc25 ?_
  intro q15 w16 h17
  refine wl_fill (c' := el rt) h17 0 rfl (by kernel_rfl) (by kernel_rfl) (by kernel_rfl) (el_sz _ _) (info_el _) (one_el _) ?_
  intro w18 (h19 : HA w [(q15, 37, el rt), (q8, 37, el y), (q1, 39, pr 0 0)] w18)
  refine wl_val (.bool true) (by kernel_rfl) (by kernel_rfl) ?_
  refine wl_nil ?_
  refine then_at (F := ⟨(zCuS_4 s q1 q8 y (pt q15) (.bool true :: .bool false :: un :: .tuple #[arr rt, .bool true] :: arr y :: .tuple #[arr rt, .bool true] :: arr rt :: .bool true :: List.replicate 17 un)).toArray, []⟩) (by kernel_rfl) ?_
  refine wp_seq ?_
  refine wp_seq ?_
  refine wp_region_sure ⟨(zCuS_5 s q1 q8 q15 y rt (.bool false) (List.replicate 7 un)).toArray, []⟩ (HA w [(q15, 37, el rt), (q8, 37, el y), (q1, 39, pr 0 0)]) [.bool true, .bool false, .bool false, .bool false, .bool false, undef, undef, undef, .bool false, .bool false] (by kernel_rfl) (by kernel_rfl) (by kernel_rfl) (by kernel_rfl) (fun _ _ _ h => h) h19.drew ?_ ?_
  · refine AllSure.cons (OpSure.take (v := .bool true) (by kernel_rfl) (by kernel_rfl) (fun _ _ => (by kernel_rfl))) ?_
    refine AllSure.cons (OpSure.take (v := .bool false) (by kernel_rfl) (by kernel_rfl) (fun _ _ => (by kernel_rfl))) ?_
    refine AllSure.cons (OpSure.take (v := .bool false) (by kernel_rfl) (by kernel_rfl) (fun _ _ => (by kernel_rfl))) ?_
    refine AllSure.cons (OpSure.take (v := .bool false) (by kernel_rfl) (by kernel_rfl) (fun _ _ => (by kernel_rfl))) ?_
    refine AllSure.cons (OpSure.take (v := .bool false) (by kernel_rfl) (by kernel_rfl) (fun _ _ => (by kernel_rfl))) ?_
    refine AllSure.cons (OpSure.skip (by kernel_rfl) (by kernel_rfl)) ?_
    refine AllSure.cons (OpSure.skip (by kernel_rfl) (by kernel_rfl)) ?_
    refine AllSure.cons (OpSure.skip (by kernel_rfl) (by kernel_rfl)) ?_
    refine AllSure.cons (OpSure.take (v := .bool false) (by kernel_rfl) (by kernel_rfl) (fun _ _ => (by kernel_rfl))) ?_
    refine AllSure.cons (OpSure.take (v := .bool false) (by kernel_rfl) (by kernel_rfl) (fun _ _ => (by kernel_rfl))) ?_
    exact AllSure.nil
  intro w20 h21
  refine then_at (F := ⟨(zCuS_5 s q1 q8 q15 y rt (.bool false) (List.replicate 7 un)).toArray, []⟩) (by kernel_rfl) ?_
  refine wp_cond_false (by kernel_rfl) ?_
  refine wp_skip ?_
  refine then_at (F := ⟨(zCuS_5 s q1 q8 q15 y rt (.bool false) (List.replicate 7 un)).toArray, []⟩) (by kernel_rfl) ?_
  refine wp_seq ?_
  refine wp_seq ?_
  refine wl_region ?_
  refine wl_val (.bool false) (by kernel_rfl) (by kernel_rfl) ?_
  refine wl_nil ?_
  refine then_at (F := ⟨(zCuS_5 s q1 q8 q15 y rt (.bool false) (un :: .bool false :: List.replicate 5 un)).toArray, []⟩) (by kernel_rfl) ?_
  refine wp_cond_false (by kernel_rfl) ?_
  refine wp_skip ?_
  refine then_at (F := ⟨(zCuS_5 s q1 q8 q15 y rt (.bool false) (un :: .bool false :: List.replicate 5 un)).toArray, []⟩) (by kernel_rfl) ?_
  refine wp_seq ?_
  refine wl_region ?_
  refine wl_load h21 0 rfl (by kernel_rfl) (by kernel_rfl) Tryd.underlying37 rfl (info_el _) ?_
  refine wl_load h21 1 rfl (by kernel_rfl) (by kernel_rfl) Tryd.underlying37 rfl (info_el _) ?_
  refine wl_call (v := .agg (pr rt (subP y 1))) h21 (by kernel_rfl) enter43 #[arr rt, arr y] (by kernel_rfl) (at_any rt y hr hy w20 (VV.below h21.old VV.big)) ?_
  intro w22 h23
  refine wl_fill (c' := pr rt (subP y 1)) h23 2 rfl (by kernel_rfl) (by kernel_rfl) (by kernel_rfl) (pr_sz rt (subP y 1) 0 0) (info27p rt (subP y 1)) (one_pr rt (subP y 1)) ?_
  intro w24 (h25 : HA w [(q15, 37, el rt), (q8, 37, el y), (q1, 39, pr rt (subP y 1))] w24)
  refine wl_val (.bool true) (by kernel_rfl) (by kernel_rfl) ?_
  refine wl_nil ?_
  refine then_at (F := ⟨(zCuS_5 s q1 q8 q15 y rt (.bool true) (un :: .bool false :: un :: un :: arr rt :: arr y :: .agg (pr rt (subP y 1)) :: [])).toArray, []⟩) (by kernel_rfl) ?_
  refine wp_ret ?_
  repeat first | refine then_ret ?_ | refine block_ret ?_
  exact bodyPost_ret (v := .tuple #[.agg (pr rt (subP y 1)), .bool true]) (res_cell_tmp (p := 2) (r := 3) (by kernel_rfl) (by kernel_rfl) (by kernel_rfl) (h25.get 2 rfl) Tryd.underlying39 rfl (info27p rt (subP y 1))) rfl ⟨rfl, h25.old⟩

def zCuS_6 (s : ByteArray) q1 (zx4 zx5 : Value) (zt : List Value) := (.string s :: un :: pt q1 :: .bool false :: zx4 :: zx5 :: un :: un :: un :: .string s :: iN .i64 s.size :: .bool false :: zt : List Value)
def zCuS_7 (s : ByteArray) q1 q8 (y : Nat) (zx8 : Value) (zt : List Value) := (.string s :: un :: pt q1 :: .bool false :: .string (topS s) :: .bool true :: pt q8 :: .bool true :: zx8 :: .string s :: iN .i64 s.size :: .bool false :: un :: .tuple #[.string (topS s), .bool true] :: .string s :: .tuple #[.string (topS s), .bool true] :: .string (topS s) :: .bool true :: .tuple #[arr y, .bool true] :: .string (topS s) :: .tuple #[arr y, .bool true] :: arr y :: .bool true :: zt : List Value)
def zCuS_8 (s : ByteArray) q1 q8 q15 (y : Nat) (rt : Nat) (zt : List Value) := (.string s :: un :: pt q1 :: .bool false :: .string (topS s) :: .bool true :: pt q8 :: .bool true :: pt q15 :: .string s :: iN .i64 s.size :: .bool false :: un :: .tuple #[.string (topS s), .bool true] :: .string s :: .tuple #[.string (topS s), .bool true] :: .string (topS s) :: .bool true :: .tuple #[arr y, .bool true] :: .string (topS s) :: .tuple #[arr y, .bool true] :: arr y :: .bool true :: .bool true :: .bool false :: un :: .tuple #[arr rt, .bool true] :: arr y :: .tuple #[arr rt, .bool true] :: arr rt :: .bool true :: .bool true :: .bool false :: .bool false :: .bool true :: .bool true :: arr rt :: arr 0 :: .bool true :: .bool true :: .bool true :: zt : List Value)
set_option linter.unusedVariables false in
set_option maxRecDepth 100000 in
set_option maxHeartbeats 2000000 in
theorem POf_no_zero (s : ByteArray) (hs : s.size = 32) (y : Nat) (hy : y < P) (hof : ofP (topS s) = some y) (rt : Nat) (hr : rt < P) (hroot : rootP (bsq y) = some rt) (hbit : numS s / 2 ^ 255 % 2 = 1) (hrt : rt = 0) (w : World) (VV : Vars w) :
    Calls Tryd.prog 26 #[.string s] w fun e w' => e = .returned (.tuple #[.agg (pr 0 0), .bool false]) ∧ Below w.heap.size w w' := by
  have H0 := HA.start w
  go_enter Tryd.func26, Tryd.ntmps26
  refine wp_seq ?_
  refine wl_region ?_
  refine wl_make H0 39 (by kernel_rfl) run_alloc27 ?_
  intro q1 w2 h3
  refine wl_val (.bool false) (by kernel_rfl) (by kernel_rfl) ?_
  refine wl_nil ?_
  refine then_at (F := ⟨(.string s :: un :: pt q1 :: .bool false :: List.replicate 44 un).toArray, []⟩) (by kernel_rfl) ?_
  refine wp_seq ?_
  refine wp_seq ?_
  refine wl_region ?_
  refine wl_val (.string s) (by kernel_rfl) (by kernel_rfl) ?_
  refine wl_val (iN .i64 s.size) (by kernel_rfl) (run_len (s := s) (by kernel_rfl)) ?_
  refine wl_val (.bool false) (by kernel_rfl) (run_nei (k := .i64) (a := s.size) (b := 32) (by kernel_rfl) (by kernel_rfl) false (decide_eq_false (fun hh => hh hs))) ?_
  refine wl_nil ?_
  refine then_at (F := ⟨(zCuS_6 s q1 un un (List.replicate 36 un)).toArray, []⟩) (by kernel_rfl) ?_
  refine wp_cond_false (by kernel_rfl) ?_
  refine wp_skip ?_
  refine then_at (F := ⟨(zCuS_6 s q1 un un (List.replicate 36 un)).toArray, []⟩) (by kernel_rfl) ?_
  refine wp_seq ?_
  refine wl_region ?_
  refine wl_val (.string s) (by kernel_rfl) (by kernel_rfl) ?_
  refine wl_call (v := .tuple #[.string (topS s), .bool true]) h3 (by kernel_rfl) enter37 #[.string s] (by kernel_rfl) ((by have hz := withoutTop_any s hs w2; rw [decide_eq_true hbit] at hz; exact hz)) ?_
  intro w4 h5
  refine wl_val (.tuple #[.string (topS s), .bool true]) (by kernel_rfl) (by kernel_rfl) ?_
  refine wl_val (.string (topS s)) (by kernel_rfl) (by kernel_rfl) ?_
  refine wl_val (.bool true) (by kernel_rfl) (by kernel_rfl) ?_
  refine wl_val (.string (topS s)) (by kernel_rfl) (by kernel_rfl) ?_
  refine wl_val (.bool true) (by kernel_rfl) (by kernel_rfl) ?_
  refine wl_nil ?_
  refine then_at (F := ⟨(zCuS_6 s q1 (.string (topS s)) (.bool true) (un :: .tuple #[.string (topS s), .bool true] :: .string s :: .tuple #[.string (topS s), .bool true] :: .string (topS s) :: .bool true :: List.replicate 30 un)).toArray, []⟩) (by kernel_rfl) ?_
  refine wp_seq ?_
  refine wl_region ?_
  refine wl_val (.string (topS s)) (by kernel_rfl) (by kernel_rfl) ?_
  refine wl_call (v := .tuple #[arr y, .bool true]) h5 (by kernel_rfl) enter38 #[.string (topS s)] (by kernel_rfl) (Of_yes (topS s) hof w4 (VV.below h5.old VV.big)) ?_
  intro w6 h7
  refine wl_val (.tuple #[arr y, .bool true]) (by kernel_rfl) (by kernel_rfl) ?_
  refine wl_val (arr y) (by kernel_rfl) (by kernel_rfl) ?_
  refine wl_val (.bool true) (by kernel_rfl) (by kernel_rfl) ?_
  refine wl_make h7 37 (by kernel_rfl) run_alloc25 ?_
  intro q8 w9 h10
  refine wl_fill (c' := el y) h10 0 rfl (by kernel_rfl) (by kernel_rfl) (by kernel_rfl) (el_sz _ _) (info_el _) (one_el _) ?_
  intro w11 (h12 : HA w [(q8, 37, el y), (q1, 39, pr 0 0)] w11)
  refine wl_val (.bool true) (by kernel_rfl) (by kernel_rfl) ?_
  refine wl_nil ?_
  refine then_at (F := ⟨(zCuS_7 s q1 q8 y un (List.replicate 25 un)).toArray, []⟩) (by kernel_rfl) ?_
  refine wp_seq ?_
  refine wp_seq ?_
  refine wl_region ?_
  refine wl_val (.bool true) (by kernel_rfl) (by kernel_rfl) ?_
  refine wl_val (.bool false) (by kernel_rfl) (by kernel_rfl) ?_
  refine wl_nil ?_
  refine then_at (F := ⟨(zCuS_7 s q1 q8 y un (.bool true :: .bool false :: List.replicate 23 un)).toArray, []⟩) (by kernel_rfl) ?_
  refine wp_cond_false (by kernel_rfl) ?_
  refine wp_skip ?_
  refine then_at (F := ⟨(zCuS_7 s q1 q8 y un (.bool true :: .bool false :: List.replicate 23 un)).toArray, []⟩) (by kernel_rfl) ?_
  refine wp_seq ?_
  refine wl_region ?_
  refine wl_load h12 0 rfl (by kernel_rfl) (by kernel_rfl) Tryd.underlying37 rfl (info_el _) ?_
  refine wl_call (v := .tuple #[arr rt, .bool true]) h12 (by kernel_rfl) enter39 #[arr y] (by kernel_rfl) (beside_yes y hy rt hr hroot w11 (VV.below h12.old VV.big)) ?_
  intro w13 h14
  refine wl_val (.tuple #[arr rt, .bool true]) (by kernel_rfl) (by kernel_rfl) ?_
  refine wl_val (arr rt) (by kernel_rfl) (by kernel_rfl) ?_
  refine wl_val (.bool true) (by kernel_rfl) (by kernel_rfl) ?_
  refine wl_make h14 37 (by kernel_rfl) run_alloc25 ?_
  intro q15 w16 h17
  refine wl_fill (c' := el rt) h17 0 rfl (by kernel_rfl) (by kernel_rfl) (by kernel_rfl) (el_sz _ _) (info_el _) (one_el _) ?_
  intro w18 (h19 : HA w [(q15, 37, el rt), (q8, 37, el y), (q1, 39, pr 0 0)] w18)
  refine wl_val (.bool true) (by kernel_rfl) (by kernel_rfl) ?_
  refine wl_nil ?_
  refine then_at (F := ⟨(zCuS_7 s q1 q8 y (pt q15) (.bool true :: .bool false :: un :: .tuple #[arr rt, .bool true] :: arr y :: .tuple #[arr rt, .bool true] :: arr rt :: .bool true :: List.replicate 17 un)).toArray, []⟩) (by kernel_rfl) ?_
  refine wp_seq ?_
  refine wp_seq ?_
  refine wp_region_sure ⟨(zCuS_8 s q1 q8 q15 y rt (List.replicate 7 un)).toArray, []⟩ (HA w [(q15, 37, el rt), (q8, 37, el y), (q1, 39, pr 0 0)]) [.bool true, .bool false, .bool false, .bool true, .bool true, arr rt, arr 0, .bool true, .bool true, .bool true] (by kernel_rfl) (by kernel_rfl) (by kernel_rfl) (by kernel_rfl) (fun _ _ _ h => h) h19.drew ?_ ?_
  · refine AllSure.cons (OpSure.take (v := .bool true) (by kernel_rfl) (by kernel_rfl) (fun _ _ => (by kernel_rfl))) ?_
    refine AllSure.cons (OpSure.take (v := .bool false) (by kernel_rfl) (by kernel_rfl) (fun _ _ => (by kernel_rfl))) ?_
    refine AllSure.cons (OpSure.take (v := .bool false) (by kernel_rfl) (by kernel_rfl) (fun _ _ => (by kernel_rfl))) ?_
    refine AllSure.cons (OpSure.take (v := .bool true) (by kernel_rfl) (by kernel_rfl) (fun _ _ => (by kernel_rfl))) ?_
    refine AllSure.cons (OpSure.take (v := .bool true) (by kernel_rfl) (by kernel_rfl) (fun _ _ => (by kernel_rfl))) ?_
    refine AllSure.cons (OpSure.take (v := arr rt) (by kernel_rfl) (by kernel_rfl) (fun _ h => run_load_blk (by kernel_rfl) (h.get 0 rfl) Tryd.underlying37 rfl (info_el _))) ?_
    refine AllSure.cons (sure_call (v := arr 0) (by kernel_rfl) (by kernel_rfl) enter41 HA.keep #[iN .u32 0] (by kernel_rfl) (fun w' h' => Small_any 0 (by decide) w')) ?_
    refine AllSure.cons (sure_call (v := .bool true) (by kernel_rfl) (by kernel_rfl) enter40 HA.keep #[arr rt, arr 0] (by kernel_rfl) (fun w' h' => Same_yes rt 0 hr (by decide) hrt w')) ?_
    refine AllSure.cons (OpSure.take (v := .bool true) (by kernel_rfl) (by kernel_rfl) (fun _ _ => (by kernel_rfl))) ?_
    refine AllSure.cons (OpSure.take (v := .bool true) (by kernel_rfl) (by kernel_rfl) (fun _ _ => (by kernel_rfl))) ?_
    exact AllSure.nil
  intro w20 h21
  refine then_at (F := ⟨(zCuS_8 s q1 q8 q15 y rt (List.replicate 7 un)).toArray, []⟩) (by kernel_rfl) ?_
  refine wp_cond_true (by kernel_rfl) ?_
  refine wp_seq ?_
  refine wl_region ?_
  refine wl_val (.agg (pr 0 0)) (by kernel_rfl) run_build27z ?_
  refine wl_fill (c' := pr 0 0) h21 2 rfl (by kernel_rfl) (by kernel_rfl) (by kernel_rfl) (pr_sz 0 0 0 0) (info27p 0 0) (one_pr 0 0) ?_
  intro w22 (h23 : HA w [(q15, 37, el rt), (q8, 37, el y), (q1, 39, pr 0 0)] w22)
  refine wl_val (.bool false) (by kernel_rfl) (by kernel_rfl) ?_
  refine wl_nil ?_
  refine then_at (F := ⟨(zCuS_8 s q1 q8 q15 y rt (.agg (pr 0 0) :: List.replicate 6 un)).toArray, []⟩) (by kernel_rfl) ?_
  refine wp_ret ?_
  repeat first | refine then_ret ?_ | refine block_ret ?_
  exact bodyPost_ret (v := .tuple #[.agg (pr 0 0), .bool false]) (res_cell_tmp (p := 2) (r := 3) (by kernel_rfl) (by kernel_rfl) (by kernel_rfl) (h23.get 2 rfl) Tryd.underlying39 rfl (info27p 0 0)) rfl ⟨rfl, h23.old⟩

def zCuS_9 (s : ByteArray) q1 (zx4 zx5 : Value) (zt : List Value) := (.string s :: un :: pt q1 :: .bool false :: zx4 :: zx5 :: un :: un :: un :: .string s :: iN .i64 s.size :: .bool false :: zt : List Value)
def zCuS_10 (s : ByteArray) q1 q8 (y : Nat) (zt : List Value) := (.string s :: un :: pt q1 :: .bool false :: .string (topS s) :: .bool true :: pt q8 :: .bool true :: un :: .string s :: iN .i64 s.size :: .bool false :: un :: .tuple #[.string (topS s), .bool true] :: .string s :: .tuple #[.string (topS s), .bool true] :: .string (topS s) :: .bool true :: .tuple #[arr y, .bool true] :: .string (topS s) :: .tuple #[arr y, .bool true] :: arr y :: .bool true :: zt : List Value)
def zCuS_11 (s : ByteArray) q1 q8 q15 (y : Nat) (zx31 zx32 zx33 zx40 zx41 : Value) (zt : List Value) := (.string s :: un :: pt q1 :: .bool false :: .string (topS s) :: .bool true :: pt q8 :: .bool false :: pt q15 :: .string s :: iN .i64 s.size :: .bool false :: un :: .tuple #[.string (topS s), .bool true] :: .string s :: .tuple #[.string (topS s), .bool true] :: .string (topS s) :: .bool true :: .tuple #[arr y, .bool true] :: .string (topS s) :: .tuple #[arr y, .bool true] :: arr y :: .bool true :: .bool true :: .bool false :: un :: .tuple #[arr 0, .bool false] :: arr y :: .tuple #[arr 0, .bool false] :: arr 0 :: .bool false :: zx31 :: zx32 :: zx33 :: un :: un :: un :: un :: un :: un :: zx40 :: zx41 :: un :: un :: un :: un :: un :: un :: zt : List Value)
set_option linter.unusedVariables false in
set_option maxRecDepth 100000 in
set_option maxHeartbeats 2000000 in
theorem POf_no_root1 (s : ByteArray) (hs : s.size = 32) (y : Nat) (hy : y < P) (hof : ofP (topS s) = some y) (hroot : rootP (bsq y) = none) (hbit : numS s / 2 ^ 255 % 2 = 1) (w : World) (VV : Vars w) :
    Calls Tryd.prog 26 #[.string s] w fun e w' => e = .returned (.tuple #[.agg (pr 0 0), .bool false]) ∧ Below w.heap.size w w' := by
  have H0 := HA.start w
  go_enter Tryd.func26, Tryd.ntmps26
  refine wp_seq ?_
  refine wl_region ?_
  refine wl_make H0 39 (by kernel_rfl) run_alloc27 ?_
  intro q1 w2 h3
  refine wl_val (.bool false) (by kernel_rfl) (by kernel_rfl) ?_
  refine wl_nil ?_
  refine then_at (F := ⟨(.string s :: un :: pt q1 :: .bool false :: List.replicate 44 un).toArray, []⟩) (by kernel_rfl) ?_
  refine wp_seq ?_
  refine wp_seq ?_
  refine wl_region ?_
  refine wl_val (.string s) (by kernel_rfl) (by kernel_rfl) ?_
  refine wl_val (iN .i64 s.size) (by kernel_rfl) (run_len (s := s) (by kernel_rfl)) ?_
  refine wl_val (.bool false) (by kernel_rfl) (run_nei (k := .i64) (a := s.size) (b := 32) (by kernel_rfl) (by kernel_rfl) false (decide_eq_false (fun hh => hh hs))) ?_
  refine wl_nil ?_
  refine then_at (F := ⟨(zCuS_9 s q1 un un (List.replicate 36 un)).toArray, []⟩) (by kernel_rfl) ?_
  refine wp_cond_false (by kernel_rfl) ?_
  refine wp_skip ?_
  refine then_at (F := ⟨(zCuS_9 s q1 un un (List.replicate 36 un)).toArray, []⟩) (by kernel_rfl) ?_
  refine wp_seq ?_
  refine wl_region ?_
  refine wl_val (.string s) (by kernel_rfl) (by kernel_rfl) ?_
  refine wl_call (v := .tuple #[.string (topS s), .bool true]) h3 (by kernel_rfl) enter37 #[.string s] (by kernel_rfl) ((by have hz := withoutTop_any s hs w2; rw [decide_eq_true hbit] at hz; exact hz)) ?_
  intro w4 h5
  refine wl_val (.tuple #[.string (topS s), .bool true]) (by kernel_rfl) (by kernel_rfl) ?_
  refine wl_val (.string (topS s)) (by kernel_rfl) (by kernel_rfl) ?_
  refine wl_val (.bool true) (by kernel_rfl) (by kernel_rfl) ?_
  refine wl_val (.string (topS s)) (by kernel_rfl) (by kernel_rfl) ?_
  refine wl_val (.bool true) (by kernel_rfl) (by kernel_rfl) ?_
  refine wl_nil ?_
  refine then_at (F := ⟨(zCuS_9 s q1 (.string (topS s)) (.bool true) (un :: .tuple #[.string (topS s), .bool true] :: .string s :: .tuple #[.string (topS s), .bool true] :: .string (topS s) :: .bool true :: List.replicate 30 un)).toArray, []⟩) (by kernel_rfl) ?_
  refine wp_seq ?_
  refine wl_region ?_
  refine wl_val (.string (topS s)) (by kernel_rfl) (by kernel_rfl) ?_
  refine wl_call (v := .tuple #[arr y, .bool true]) h5 (by kernel_rfl) enter38 #[.string (topS s)] (by kernel_rfl) (Of_yes (topS s) hof w4 (VV.below h5.old VV.big)) ?_
  intro w6 h7
  refine wl_val (.tuple #[arr y, .bool true]) (by kernel_rfl) (by kernel_rfl) ?_
  refine wl_val (arr y) (by kernel_rfl) (by kernel_rfl) ?_
  refine wl_val (.bool true) (by kernel_rfl) (by kernel_rfl) ?_
  refine wl_make h7 37 (by kernel_rfl) run_alloc25 ?_
  intro q8 w9 h10
  refine wl_fill (c' := el y) h10 0 rfl (by kernel_rfl) (by kernel_rfl) (by kernel_rfl) (el_sz _ _) (info_el _) (one_el _) ?_
  intro w11 (h12 : HA w [(q8, 37, el y), (q1, 39, pr 0 0)] w11)
  refine wl_val (.bool true) (by kernel_rfl) (by kernel_rfl) ?_
  refine wl_nil ?_
  refine then_at (F := ⟨(zCuS_10 s q1 q8 y (List.replicate 25 un)).toArray, []⟩) (by kernel_rfl) ?_
  refine wp_seq ?_
  refine wp_seq ?_
  refine wl_region ?_
  refine wl_val (.bool true) (by kernel_rfl) (by kernel_rfl) ?_
  refine wl_val (.bool false) (by kernel_rfl) (by kernel_rfl) ?_
  refine wl_nil ?_
  refine then_at (F := ⟨(zCuS_10 s q1 q8 y (.bool true :: .bool false :: List.replicate 23 un)).toArray, []⟩) (by kernel_rfl) ?_
  refine wp_cond_false (by kernel_rfl) ?_
  refine wp_skip ?_
  refine then_at (F := ⟨(zCuS_10 s q1 q8 y (.bool true :: .bool false :: List.replicate 23 un)).toArray, []⟩) (by kernel_rfl) ?_
  refine wp_seq ?_
  refine wl_region ?_
  refine wl_load h12 0 rfl (by kernel_rfl) (by kernel_rfl) Tryd.underlying37 rfl (info_el _) ?_
  refine wl_call (v := .tuple #[arr 0, .bool false]) h12 (by kernel_rfl) enter39 #[arr y] (by kernel_rfl) (beside_no y hy hroot w11 (VV.below h12.old VV.big)) ?_
  intro w13 h14
  refine wl_val (.tuple #[arr 0, .bool false]) (by kernel_rfl) (by kernel_rfl) ?_
  refine wl_val (arr 0) (by kernel_rfl) (by kernel_rfl) ?_
  refine wl_val (.bool false) (by kernel_rfl) (by kernel_rfl) ?_
  refine wl_make h14 37 (by kernel_rfl) run_alloc25 ?_
  intro q15 w16 h17
  refine wl_fill (c' := el 0) h17 0 rfl (by kernel_rfl) (by kernel_rfl) (by kernel_rfl) (el_sz _ _) (info_el _) (one_el _) ?_
  intro w18 (h19 : HA w [(q15, 37, el 0), (q8, 37, el y), (q1, 39, pr 0 0)] w18)
  refine wl_val (.bool false) (by kernel_rfl) (by kernel_rfl) ?_
  refine wl_nil ?_
  refine then_at (F := ⟨(zCuS_11 s q1 q8 q15 y un un un un un ([])).toArray, []⟩) (by kernel_rfl) ?_
  refine wp_seq ?_
  refine wp_seq ?_
  refine wp_region_sure ⟨(zCuS_11 s q1 q8 q15 y (.bool false) (.bool true) (.bool true) (.bool true) un ([])).toArray, []⟩ (HA w [(q15, 37, el 0), (q8, 37, el y), (q1, 39, pr 0 0)]) [.bool false, .bool true, .bool true, undef, undef, undef, undef, undef, undef, .bool true] (by kernel_rfl) (by kernel_rfl) (by kernel_rfl) (by kernel_rfl) (fun _ _ _ h => h) h19.drew ?_ ?_
  · refine AllSure.cons (OpSure.take (v := .bool false) (by kernel_rfl) (by kernel_rfl) (fun _ _ => (by kernel_rfl))) ?_
    refine AllSure.cons (OpSure.take (v := .bool true) (by kernel_rfl) (by kernel_rfl) (fun _ _ => (by kernel_rfl))) ?_
    refine AllSure.cons (OpSure.take (v := .bool true) (by kernel_rfl) (by kernel_rfl) (fun _ _ => (by kernel_rfl))) ?_
    refine AllSure.cons (OpSure.skip (by kernel_rfl) (by kernel_rfl)) ?_
    refine AllSure.cons (OpSure.skip (by kernel_rfl) (by kernel_rfl)) ?_
    refine AllSure.cons (OpSure.skip (by kernel_rfl) (by kernel_rfl)) ?_
    refine AllSure.cons (OpSure.skip (by kernel_rfl) (by kernel_rfl)) ?_
    refine AllSure.cons (OpSure.skip (by kernel_rfl) (by kernel_rfl)) ?_
    refine AllSure.cons (OpSure.skip (by kernel_rfl) (by kernel_rfl)) ?_
    refine AllSure.cons (OpSure.take (v := .bool true) (by kernel_rfl) (by kernel_rfl) (fun _ _ => (by kernel_rfl))) ?_
    exact AllSure.nil
  intro w20 h21
  refine then_at (F := ⟨(zCuS_11 s q1 q8 q15 y (.bool false) (.bool true) (.bool true) (.bool true) un ([])).toArray, []⟩) (by kernel_rfl) ?_
  refine wp_cond_true (by kernel_rfl) ?_
  refine wp_seq ?_
  refine wl_region ?_
  refine wl_val (.agg (pr 0 0)) (by kernel_rfl) run_build27z ?_
  refine wl_fill (c' := pr 0 0) h21 2 rfl (by kernel_rfl) (by kernel_rfl) (by kernel_rfl) (pr_sz 0 0 0 0) (info27p 0 0) (one_pr 0 0) ?_
  intro w22 (h23 : HA w [(q15, 37, el 0), (q8, 37, el y), (q1, 39, pr 0 0)] w22)
  refine wl_val (.bool false) (by kernel_rfl) (by kernel_rfl) ?_
  refine wl_nil ?_
  refine then_at (F := ⟨(zCuS_11 s q1 q8 q15 y (.bool false) (.bool true) (.bool true) (.bool true) (.agg (pr 0 0)) ([])).toArray, []⟩) (by kernel_rfl) ?_
  refine wp_ret ?_
  repeat first | refine then_ret ?_ | refine block_ret ?_
  exact bodyPost_ret (v := .tuple #[.agg (pr 0 0), .bool false]) (res_cell_tmp (p := 2) (r := 3) (by kernel_rfl) (by kernel_rfl) (by kernel_rfl) (h23.get 2 rfl) Tryd.underlying39 rfl (info27p 0 0)) rfl ⟨rfl, h23.old⟩

def zCuS_12 (s : ByteArray) q1 (zx4 zx5 : Value) (zt : List Value) := (.string s :: un :: pt q1 :: .bool false :: zx4 :: zx5 :: un :: un :: un :: .string s :: iN .i64 s.size :: .bool false :: zt : List Value)
def zCuS_13 (s : ByteArray) q1 q8 (zt : List Value) := (.string s :: un :: pt q1 :: .bool false :: .string (topS s) :: .bool true :: pt q8 :: .bool false :: un :: .string s :: iN .i64 s.size :: .bool false :: un :: .tuple #[.string (topS s), .bool true] :: .string s :: .tuple #[.string (topS s), .bool true] :: .string (topS s) :: .bool true :: .tuple #[arr 0, .bool false] :: .string (topS s) :: .tuple #[arr 0, .bool false] :: arr 0 :: .bool false :: zt : List Value)
set_option linter.unusedVariables false in
set_option maxRecDepth 100000 in
set_option maxHeartbeats 2000000 in
theorem POf_no_of1 (s : ByteArray) (hs : s.size = 32) (hof : ofP (topS s) = none) (hbit : numS s / 2 ^ 255 % 2 = 1) (w : World) (VV : Vars w) :
    Calls Tryd.prog 26 #[.string s] w fun e w' => e = .returned (.tuple #[.agg (pr 0 0), .bool false]) ∧ Below w.heap.size w w' := by
  have H0 := HA.start w
  go_enter Tryd.func26, Tryd.ntmps26
  refine wp_seq ?_
  refine wl_region ?_
  refine wl_make H0 39 (by kernel_rfl) run_alloc27 ?_
  intro q1 w2 h3
  refine wl_val (.bool false) (by kernel_rfl) (by kernel_rfl) ?_
  refine wl_nil ?_
  refine then_at (F := ⟨(.string s :: un :: pt q1 :: .bool false :: List.replicate 44 un).toArray, []⟩) (by kernel_rfl) ?_
  refine wp_seq ?_
  refine wp_seq ?_
  refine wl_region ?_
  refine wl_val (.string s) (by kernel_rfl) (by kernel_rfl) ?_
  refine wl_val (iN .i64 s.size) (by kernel_rfl) (run_len (s := s) (by kernel_rfl)) ?_
  refine wl_val (.bool false) (by kernel_rfl) (run_nei (k := .i64) (a := s.size) (b := 32) (by kernel_rfl) (by kernel_rfl) false (decide_eq_false (fun hh => hh hs))) ?_
  refine wl_nil ?_
  refine then_at (F := ⟨(zCuS_12 s q1 un un (List.replicate 36 un)).toArray, []⟩) (by kernel_rfl) ?_
  refine wp_cond_false (by kernel_rfl) ?_
  refine wp_skip ?_
  refine then_at (F := ⟨(zCuS_12 s q1 un un (List.replicate 36 un)).toArray, []⟩) (by kernel_rfl) ?_
  refine wp_seq ?_
  refine wl_region ?_
  refine wl_val (.string s) (by kernel_rfl) (by kernel_rfl) ?_
  refine wl_call (v := .tuple #[.string (topS s), .bool true]) h3 (by kernel_rfl) enter37 #[.string s] (by kernel_rfl) ((by have hz := withoutTop_any s hs w2; rw [decide_eq_true hbit] at hz; exact hz)) ?_
  intro w4 h5
  refine wl_val (.tuple #[.string (topS s), .bool true]) (by kernel_rfl) (by kernel_rfl) ?_
  refine wl_val (.string (topS s)) (by kernel_rfl) (by kernel_rfl) ?_
  refine wl_val (.bool true) (by kernel_rfl) (by kernel_rfl) ?_
  refine wl_val (.string (topS s)) (by kernel_rfl) (by kernel_rfl) ?_
  refine wl_val (.bool true) (by kernel_rfl) (by kernel_rfl) ?_
  refine wl_nil ?_
  refine then_at (F := ⟨(zCuS_12 s q1 (.string (topS s)) (.bool true) (un :: .tuple #[.string (topS s), .bool true] :: .string s :: .tuple #[.string (topS s), .bool true] :: .string (topS s) :: .bool true :: List.replicate 30 un)).toArray, []⟩) (by kernel_rfl) ?_
  refine wp_seq ?_
  refine wl_region ?_
  refine wl_val (.string (topS s)) (by kernel_rfl) (by kernel_rfl) ?_
  refine wl_call (v := .tuple #[arr 0, .bool false]) h5 (by kernel_rfl) enter38 #[.string (topS s)] (by kernel_rfl) (Of_no (topS s) hof w4 (VV.below h5.old VV.big)) ?_
  intro w6 h7
  refine wl_val (.tuple #[arr 0, .bool false]) (by kernel_rfl) (by kernel_rfl) ?_
  refine wl_val (arr 0) (by kernel_rfl) (by kernel_rfl) ?_
  refine wl_val (.bool false) (by kernel_rfl) (by kernel_rfl) ?_
  refine wl_make h7 37 (by kernel_rfl) run_alloc25 ?_
  intro q8 w9 h10
  refine wl_fill (c' := el 0) h10 0 rfl (by kernel_rfl) (by kernel_rfl) (by kernel_rfl) (el_sz _ _) (info_el _) (one_el _) ?_
  intro w11 (h12 : HA w [(q8, 37, el 0), (q1, 39, pr 0 0)] w11)
  refine wl_val (.bool false) (by kernel_rfl) (by kernel_rfl) ?_
  refine wl_nil ?_
  refine then_at (F := ⟨(zCuS_13 s q1 q8 (List.replicate 25 un)).toArray, []⟩) (by kernel_rfl) ?_
  refine wp_seq ?_
  refine wp_seq ?_
  refine wl_region ?_
  refine wl_val (.bool false) (by kernel_rfl) (by kernel_rfl) ?_
  refine wl_val (.bool true) (by kernel_rfl) (by kernel_rfl) ?_
  refine wl_nil ?_
  refine then_at (F := ⟨(zCuS_13 s q1 q8 (.bool false :: .bool true :: List.replicate 23 un)).toArray, []⟩) (by kernel_rfl) ?_
  refine wp_cond_true (by kernel_rfl) ?_
  refine wp_seq ?_
  refine wl_region ?_
  refine wl_val (.agg (pr 0 0)) (by kernel_rfl) run_build27z ?_
  refine wl_fill (c' := pr 0 0) h12 1 rfl (by kernel_rfl) (by kernel_rfl) (by kernel_rfl) (pr_sz 0 0 0 0) (info27p 0 0) (one_pr 0 0) ?_
  intro w13 (h14 : HA w [(q8, 37, el 0), (q1, 39, pr 0 0)] w13)
  refine wl_val (.bool false) (by kernel_rfl) (by kernel_rfl) ?_
  refine wl_nil ?_
  refine then_at (F := ⟨(zCuS_13 s q1 q8 (.bool false :: .bool true :: .agg (pr 0 0) :: List.replicate 22 un)).toArray, []⟩) (by kernel_rfl) ?_
  refine wp_ret ?_
  repeat first | refine then_ret ?_ | refine block_ret ?_
  exact bodyPost_ret (v := .tuple #[.agg (pr 0 0), .bool false]) (res_cell_tmp (p := 2) (r := 3) (by kernel_rfl) (by kernel_rfl) (by kernel_rfl) (h14.get 1 rfl) Tryd.underlying39 rfl (info27p 0 0)) rfl ⟨rfl, h14.old⟩

def zCuS_14 (s : ByteArray) q1 (zx4 zx5 : Value) (zt : List Value) := (.string s :: un :: pt q1 :: .bool false :: zx4 :: zx5 :: un :: un :: un :: .string s :: iN .i64 s.size :: .bool false :: zt : List Value)
def zCuS_15 (s : ByteArray) q1 q8 (y : Nat) (zt : List Value) := (.string s :: un :: pt q1 :: .bool false :: .string (topS s) :: .bool false :: pt q8 :: .bool true :: un :: .string s :: iN .i64 s.size :: .bool false :: un :: .tuple #[.string (topS s), .bool false] :: .string s :: .tuple #[.string (topS s), .bool false] :: .string (topS s) :: .bool false :: .tuple #[arr y, .bool true] :: .string (topS s) :: .tuple #[arr y, .bool true] :: arr y :: .bool true :: zt : List Value)
def zCuS_16 (s : ByteArray) q1 q8 q15 (y : Nat) (zx31 zx32 zx33 zx40 zx41 : Value) (zt : List Value) := (.string s :: un :: pt q1 :: .bool false :: .string (topS s) :: .bool false :: pt q8 :: .bool false :: pt q15 :: .string s :: iN .i64 s.size :: .bool false :: un :: .tuple #[.string (topS s), .bool false] :: .string s :: .tuple #[.string (topS s), .bool false] :: .string (topS s) :: .bool false :: .tuple #[arr y, .bool true] :: .string (topS s) :: .tuple #[arr y, .bool true] :: arr y :: .bool true :: .bool true :: .bool false :: un :: .tuple #[arr 0, .bool false] :: arr y :: .tuple #[arr 0, .bool false] :: arr 0 :: .bool false :: zx31 :: zx32 :: zx33 :: un :: un :: un :: un :: un :: un :: zx40 :: zx41 :: un :: un :: un :: un :: un :: un :: zt : List Value)
set_option linter.unusedVariables false in
set_option maxRecDepth 100000 in
set_option maxHeartbeats 2000000 in
theorem POf_no_root0 (s : ByteArray) (hs : s.size = 32) (y : Nat) (hy : y < P) (hof : ofP (topS s) = some y) (hroot : rootP (bsq y) = none) (hbit : ¬ numS s / 2 ^ 255 % 2 = 1) (w : World) (VV : Vars w) :
    Calls Tryd.prog 26 #[.string s] w fun e w' => e = .returned (.tuple #[.agg (pr 0 0), .bool false]) ∧ Below w.heap.size w w' := by
  have H0 := HA.start w
  go_enter Tryd.func26, Tryd.ntmps26
  refine wp_seq ?_
  refine wl_region ?_
  refine wl_make H0 39 (by kernel_rfl) run_alloc27 ?_
  intro q1 w2 h3
  refine wl_val (.bool false) (by kernel_rfl) (by kernel_rfl) ?_
  refine wl_nil ?_
  refine then_at (F := ⟨(.string s :: un :: pt q1 :: .bool false :: List.replicate 44 un).toArray, []⟩) (by kernel_rfl) ?_
  refine wp_seq ?_
  refine wp_seq ?_
  refine wl_region ?_
  refine wl_val (.string s) (by kernel_rfl) (by kernel_rfl) ?_
  refine wl_val (iN .i64 s.size) (by kernel_rfl) (run_len (s := s) (by kernel_rfl)) ?_
  refine wl_val (.bool false) (by kernel_rfl) (run_nei (k := .i64) (a := s.size) (b := 32) (by kernel_rfl) (by kernel_rfl) false (decide_eq_false (fun hh => hh hs))) ?_
  refine wl_nil ?_
  refine then_at (F := ⟨(zCuS_14 s q1 un un (List.replicate 36 un)).toArray, []⟩) (by kernel_rfl) ?_
  refine wp_cond_false (by kernel_rfl) ?_
  refine wp_skip ?_
  refine then_at (F := ⟨(zCuS_14 s q1 un un (List.replicate 36 un)).toArray, []⟩) (by kernel_rfl) ?_
  refine wp_seq ?_
  refine wl_region ?_
  refine wl_val (.string s) (by kernel_rfl) (by kernel_rfl) ?_
  refine wl_call (v := .tuple #[.string (topS s), .bool false]) h3 (by kernel_rfl) enter37 #[.string s] (by kernel_rfl) ((by have hz := withoutTop_any s hs w2; rw [decide_eq_false hbit] at hz; exact hz)) ?_
  intro w4 h5
  refine wl_val (.tuple #[.string (topS s), .bool false]) (by kernel_rfl) (by kernel_rfl) ?_
  refine wl_val (.string (topS s)) (by kernel_rfl) (by kernel_rfl) ?_
  refine wl_val (.bool false) (by kernel_rfl) (by kernel_rfl) ?_
  refine wl_val (.string (topS s)) (by kernel_rfl) (by kernel_rfl) ?_
  refine wl_val (.bool false) (by kernel_rfl) (by kernel_rfl) ?_
  refine wl_nil ?_
  refine then_at (F := ⟨(zCuS_14 s q1 (.string (topS s)) (.bool false) (un :: .tuple #[.string (topS s), .bool false] :: .string s :: .tuple #[.string (topS s), .bool false] :: .string (topS s) :: .bool false :: List.replicate 30 un)).toArray, []⟩) (by kernel_rfl) ?_
  refine wp_seq ?_
  refine wl_region ?_
  refine wl_val (.string (topS s)) (by kernel_rfl) (by kernel_rfl) ?_
  refine wl_call (v := .tuple #[arr y, .bool true]) h5 (by kernel_rfl) enter38 #[.string (topS s)] (by kernel_rfl) (Of_yes (topS s) hof w4 (VV.below h5.old VV.big)) ?_
  intro w6 h7
  refine wl_val (.tuple #[arr y, .bool true]) (by kernel_rfl) (by kernel_rfl) ?_
  refine wl_val (arr y) (by kernel_rfl) (by kernel_rfl) ?_
  refine wl_val (.bool true) (by kernel_rfl) (by kernel_rfl) ?_
  refine wl_make h7 37 (by kernel_rfl) run_alloc25 ?_
  intro q8 w9 h10
  refine wl_fill (c' := el y) h10 0 rfl (by kernel_rfl) (by kernel_rfl) (by kernel_rfl) (el_sz _ _) (info_el _) (one_el _) ?_
  intro w11 (h12 : HA w [(q8, 37, el y), (q1, 39, pr 0 0)] w11)
  refine wl_val (.bool true) (by kernel_rfl) (by kernel_rfl) ?_
  refine wl_nil ?_
  refine then_at (F := ⟨(zCuS_15 s q1 q8 y (List.replicate 25 un)).toArray, []⟩) (by kernel_rfl) ?_
  refine wp_seq ?_
  refine wp_seq ?_
  refine wl_region ?_
  refine wl_val (.bool true) (by kernel_rfl) (by kernel_rfl) ?_
  refine wl_val (.bool false) (by kernel_rfl) (by kernel_rfl) ?_
  refine wl_nil ?_
  refine then_at (F := ⟨(zCuS_15 s q1 q8 y (.bool true :: .bool false :: List.replicate 23 un)).toArray, []⟩) (by kernel_rfl) ?_
  refine wp_cond_false (by kernel_rfl) ?_
  refine wp_skip ?_
  refine then_at (F := ⟨(zCuS_15 s q1 q8 y (.bool true :: .bool false :: List.replicate 23 un)).toArray, []⟩) (by kernel_rfl) ?_
  refine wp_seq ?_
  refine wl_region ?_
  refine wl_load h12 0 rfl (by kernel_rfl) (by kernel_rfl) Tryd.underlying37 rfl (info_el _) ?_
  refine wl_call (v := .tuple #[arr 0, .bool false]) h12 (by kernel_rfl) enter39 #[arr y] (by kernel_rfl) (beside_no y hy hroot w11 (VV.below h12.old VV.big)) ?_
  intro w13 h14
  refine wl_val (.tuple #[arr 0, .bool false]) (by kernel_rfl) (by kernel_rfl) ?_
  refine wl_val (arr 0) (by kernel_rfl) (by kernel_rfl) ?_
  refine wl_val (.bool false) (by kernel_rfl) (by kernel_rfl) ?_
  refine wl_make h14 37 (by kernel_rfl) run_alloc25 ?_
  intro q15 w16 h17
  refine wl_fill (c' := el 0) h17 0 rfl (by kernel_rfl) (by kernel_rfl) (by kernel_rfl) (el_sz _ _) (info_el _) (one_el _) ?_
  intro w18 (h19 : HA w [(q15, 37, el 0), (q8, 37, el y), (q1, 39, pr 0 0)] w18)
  refine wl_val (.bool false) (by kernel_rfl) (by kernel_rfl) ?_
  refine wl_nil ?_
  refine then_at (F := ⟨(zCuS_16 s q1 q8 q15 y un un un un un ([])).toArray, []⟩) (by kernel_rfl) ?_
  refine wp_seq ?_
  refine wp_seq ?_
  refine wp_region_sure ⟨(zCuS_16 s q1 q8 q15 y (.bool false) (.bool true) (.bool true) (.bool true) un ([])).toArray, []⟩ (HA w [(q15, 37, el 0), (q8, 37, el y), (q1, 39, pr 0 0)]) [.bool false, .bool true, .bool true, undef, undef, undef, undef, undef, undef, .bool true] (by kernel_rfl) (by kernel_rfl) (by kernel_rfl) (by kernel_rfl) (fun _ _ _ h => h) h19.drew ?_ ?_
  · refine AllSure.cons (OpSure.take (v := .bool false) (by kernel_rfl) (by kernel_rfl) (fun _ _ => (by kernel_rfl))) ?_
    refine AllSure.cons (OpSure.take (v := .bool true) (by kernel_rfl) (by kernel_rfl) (fun _ _ => (by kernel_rfl))) ?_
    refine AllSure.cons (OpSure.take (v := .bool true) (by kernel_rfl) (by kernel_rfl) (fun _ _ => (by kernel_rfl))) ?_
    refine AllSure.cons (OpSure.skip (by kernel_rfl) (by kernel_rfl)) ?_
    refine AllSure.cons (OpSure.skip (by kernel_rfl) (by kernel_rfl)) ?_
    refine AllSure.cons (OpSure.skip (by kernel_rfl) (by kernel_rfl)) ?_
    refine AllSure.cons (OpSure.skip (by kernel_rfl) (by kernel_rfl)) ?_
    refine AllSure.cons (OpSure.skip (by kernel_rfl) (by kernel_rfl)) ?_
    refine AllSure.cons (OpSure.skip (by kernel_rfl) (by kernel_rfl)) ?_
    refine AllSure.cons (OpSure.take (v := .bool true) (by kernel_rfl) (by kernel_rfl) (fun _ _ => (by kernel_rfl))) ?_
    exact AllSure.nil
  intro w20 h21
  refine then_at (F := ⟨(zCuS_16 s q1 q8 q15 y (.bool false) (.bool true) (.bool true) (.bool true) un ([])).toArray, []⟩) (by kernel_rfl) ?_
  refine wp_cond_true (by kernel_rfl) ?_
  refine wp_seq ?_
  refine wl_region ?_
  refine wl_val (.agg (pr 0 0)) (by kernel_rfl) run_build27z ?_
  refine wl_fill (c' := pr 0 0) h21 2 rfl (by kernel_rfl) (by kernel_rfl) (by kernel_rfl) (pr_sz 0 0 0 0) (info27p 0 0) (one_pr 0 0) ?_
  intro w22 (h23 : HA w [(q15, 37, el 0), (q8, 37, el y), (q1, 39, pr 0 0)] w22)
  refine wl_val (.bool false) (by kernel_rfl) (by kernel_rfl) ?_
  refine wl_nil ?_
  refine then_at (F := ⟨(zCuS_16 s q1 q8 q15 y (.bool false) (.bool true) (.bool true) (.bool true) (.agg (pr 0 0)) ([])).toArray, []⟩) (by kernel_rfl) ?_
  refine wp_ret ?_
  repeat first | refine then_ret ?_ | refine block_ret ?_
  exact bodyPost_ret (v := .tuple #[.agg (pr 0 0), .bool false]) (res_cell_tmp (p := 2) (r := 3) (by kernel_rfl) (by kernel_rfl) (by kernel_rfl) (h23.get 2 rfl) Tryd.underlying39 rfl (info27p 0 0)) rfl ⟨rfl, h23.old⟩

def zCuS_17 (s : ByteArray) q1 (zx4 zx5 : Value) (zt : List Value) := (.string s :: un :: pt q1 :: .bool false :: zx4 :: zx5 :: un :: un :: un :: .string s :: iN .i64 s.size :: .bool false :: zt : List Value)
def zCuS_18 (s : ByteArray) q1 q8 (zt : List Value) := (.string s :: un :: pt q1 :: .bool false :: .string (topS s) :: .bool false :: pt q8 :: .bool false :: un :: .string s :: iN .i64 s.size :: .bool false :: un :: .tuple #[.string (topS s), .bool false] :: .string s :: .tuple #[.string (topS s), .bool false] :: .string (topS s) :: .bool false :: .tuple #[arr 0, .bool false] :: .string (topS s) :: .tuple #[arr 0, .bool false] :: arr 0 :: .bool false :: zt : List Value)
set_option linter.unusedVariables false in
set_option maxRecDepth 100000 in
set_option maxHeartbeats 2000000 in
theorem POf_no_of0 (s : ByteArray) (hs : s.size = 32) (hof : ofP (topS s) = none) (hbit : ¬ numS s / 2 ^ 255 % 2 = 1) (w : World) (VV : Vars w) :
    Calls Tryd.prog 26 #[.string s] w fun e w' => e = .returned (.tuple #[.agg (pr 0 0), .bool false]) ∧ Below w.heap.size w w' := by
  have H0 := HA.start w
  go_enter Tryd.func26, Tryd.ntmps26
  refine wp_seq ?_
  refine wl_region ?_
  refine wl_make H0 39 (by kernel_rfl) run_alloc27 ?_
  intro q1 w2 h3
  refine wl_val (.bool false) (by kernel_rfl) (by kernel_rfl) ?_
  refine wl_nil ?_
  refine then_at (F := ⟨(.string s :: un :: pt q1 :: .bool false :: List.replicate 44 un).toArray, []⟩) (by kernel_rfl) ?_
  refine wp_seq ?_
  refine wp_seq ?_
  refine wl_region ?_
  refine wl_val (.string s) (by kernel_rfl) (by kernel_rfl) ?_
  refine wl_val (iN .i64 s.size) (by kernel_rfl) (run_len (s := s) (by kernel_rfl)) ?_
  refine wl_val (.bool false) (by kernel_rfl) (run_nei (k := .i64) (a := s.size) (b := 32) (by kernel_rfl) (by kernel_rfl) false (decide_eq_false (fun hh => hh hs))) ?_
  refine wl_nil ?_
  refine then_at (F := ⟨(zCuS_17 s q1 un un (List.replicate 36 un)).toArray, []⟩) (by kernel_rfl) ?_
  refine wp_cond_false (by kernel_rfl) ?_
  refine wp_skip ?_
  refine then_at (F := ⟨(zCuS_17 s q1 un un (List.replicate 36 un)).toArray, []⟩) (by kernel_rfl) ?_
  refine wp_seq ?_
  refine wl_region ?_
  refine wl_val (.string s) (by kernel_rfl) (by kernel_rfl) ?_
  refine wl_call (v := .tuple #[.string (topS s), .bool false]) h3 (by kernel_rfl) enter37 #[.string s] (by kernel_rfl) ((by have hz := withoutTop_any s hs w2; rw [decide_eq_false hbit] at hz; exact hz)) ?_
  intro w4 h5
  refine wl_val (.tuple #[.string (topS s), .bool false]) (by kernel_rfl) (by kernel_rfl) ?_
  refine wl_val (.string (topS s)) (by kernel_rfl) (by kernel_rfl) ?_
  refine wl_val (.bool false) (by kernel_rfl) (by kernel_rfl) ?_
  refine wl_val (.string (topS s)) (by kernel_rfl) (by kernel_rfl) ?_
  refine wl_val (.bool false) (by kernel_rfl) (by kernel_rfl) ?_
  refine wl_nil ?_
  refine then_at (F := ⟨(zCuS_17 s q1 (.string (topS s)) (.bool false) (un :: .tuple #[.string (topS s), .bool false] :: .string s :: .tuple #[.string (topS s), .bool false] :: .string (topS s) :: .bool false :: List.replicate 30 un)).toArray, []⟩) (by kernel_rfl) ?_
  refine wp_seq ?_
  refine wl_region ?_
  refine wl_val (.string (topS s)) (by kernel_rfl) (by kernel_rfl) ?_
  refine wl_call (v := .tuple #[arr 0, .bool false]) h5 (by kernel_rfl) enter38 #[.string (topS s)] (by kernel_rfl) (Of_no (topS s) hof w4 (VV.below h5.old VV.big)) ?_
  intro w6 h7
  refine wl_val (.tuple #[arr 0, .bool false]) (by kernel_rfl) (by kernel_rfl) ?_
  refine wl_val (arr 0) (by kernel_rfl) (by kernel_rfl) ?_
  refine wl_val (.bool false) (by kernel_rfl) (by kernel_rfl) ?_
  refine wl_make h7 37 (by kernel_rfl) run_alloc25 ?_
  intro q8 w9 h10
  refine wl_fill (c' := el 0) h10 0 rfl (by kernel_rfl) (by kernel_rfl) (by kernel_rfl) (el_sz _ _) (info_el _) (one_el _) ?_
  intro w11 (h12 : HA w [(q8, 37, el 0), (q1, 39, pr 0 0)] w11)
  refine wl_val (.bool false) (by kernel_rfl) (by kernel_rfl) ?_
  refine wl_nil ?_
  refine then_at (F := ⟨(zCuS_18 s q1 q8 (List.replicate 25 un)).toArray, []⟩) (by kernel_rfl) ?_
  refine wp_seq ?_
  refine wp_seq ?_
  refine wl_region ?_
  refine wl_val (.bool false) (by kernel_rfl) (by kernel_rfl) ?_
  refine wl_val (.bool true) (by kernel_rfl) (by kernel_rfl) ?_
  refine wl_nil ?_
  refine then_at (F := ⟨(zCuS_18 s q1 q8 (.bool false :: .bool true :: List.replicate 23 un)).toArray, []⟩) (by kernel_rfl) ?_
  refine wp_cond_true (by kernel_rfl) ?_
  refine wp_seq ?_
  refine wl_region ?_
  refine wl_val (.agg (pr 0 0)) (by kernel_rfl) run_build27z ?_
  refine wl_fill (c' := pr 0 0) h12 1 rfl (by kernel_rfl) (by kernel_rfl) (by kernel_rfl) (pr_sz 0 0 0 0) (info27p 0 0) (one_pr 0 0) ?_
  intro w13 (h14 : HA w [(q8, 37, el 0), (q1, 39, pr 0 0)] w13)
  refine wl_val (.bool false) (by kernel_rfl) (by kernel_rfl) ?_
  refine wl_nil ?_
  refine then_at (F := ⟨(zCuS_18 s q1 q8 (.bool false :: .bool true :: .agg (pr 0 0) :: List.replicate 22 un)).toArray, []⟩) (by kernel_rfl) ?_
  refine wp_ret ?_
  repeat first | refine then_ret ?_ | refine block_ret ?_
  exact bodyPost_ret (v := .tuple #[.agg (pr 0 0), .bool false]) (res_cell_tmp (p := 2) (r := 3) (by kernel_rfl) (by kernel_rfl) (by kernel_rfl) (h14.get 1 rfl) Tryd.underlying39 rfl (info27p 0 0)) rfl ⟨rfl, h14.old⟩

def zCuS_19 (s : ByteArray) q1 (zt : List Value) := (.string s :: un :: pt q1 :: .bool false :: un :: un :: un :: un :: un :: .string s :: iN .i64 s.size :: .bool true :: zt : List Value)
set_option linter.unusedVariables false in
set_option maxRecDepth 100000 in
set_option maxHeartbeats 2000000 in
theorem POf_no_size (s : ByteArray) (hs : s.size ≠ 32) (w : World) (VV : Vars w) :
    Calls Tryd.prog 26 #[.string s] w fun e w' => e = .returned (.tuple #[.agg (pr 0 0), .bool false]) ∧ Below w.heap.size w w' := by
  have H0 := HA.start w
  go_enter Tryd.func26, Tryd.ntmps26
  refine wp_seq ?_
  refine wl_region ?_
  refine wl_make H0 39 (by kernel_rfl) run_alloc27 ?_
  intro q1 w2 h3
  refine wl_val (.bool false) (by kernel_rfl) (by kernel_rfl) ?_
  refine wl_nil ?_
  refine then_at (F := ⟨(.string s :: un :: pt q1 :: .bool false :: List.replicate 44 un).toArray, []⟩) (by kernel_rfl) ?_
  refine wp_seq ?_
  refine wp_seq ?_
  refine wl_region ?_
  refine wl_val (.string s) (by kernel_rfl) (by kernel_rfl) ?_
  refine wl_val (iN .i64 s.size) (by kernel_rfl) (run_len (s := s) (by kernel_rfl)) ?_
  refine wl_val (.bool true) (by kernel_rfl) (run_nei (k := .i64) (a := s.size) (b := 32) (by kernel_rfl) (by kernel_rfl) true (decide_eq_true hs)) ?_
  refine wl_nil ?_
  refine then_at (F := ⟨(zCuS_19 s q1 (List.replicate 36 un)).toArray, []⟩) (by kernel_rfl) ?_
  refine wp_cond_true (by kernel_rfl) ?_
  refine wp_seq ?_
  refine wl_region ?_
  refine wl_val (.agg (pr 0 0)) (by kernel_rfl) run_build27z ?_
  refine wl_fill (c' := pr 0 0) h3 0 rfl (by kernel_rfl) (by kernel_rfl) (by kernel_rfl) (pr_sz 0 0 0 0) (info27p 0 0) (one_pr 0 0) ?_
  intro w4 (h5 : HA w [(q1, 39, pr 0 0)] w4)
  refine wl_val (.bool false) (by kernel_rfl) (by kernel_rfl) ?_
  refine wl_nil ?_
  refine then_at (F := ⟨(zCuS_19 s q1 (.agg (pr 0 0) :: List.replicate 35 un)).toArray, []⟩) (by kernel_rfl) ?_
  refine wp_ret ?_
  repeat first | refine then_ret ?_ | refine block_ret ?_
  exact bodyPost_ret (v := .tuple #[.agg (pr 0 0), .bool false]) (res_cell_tmp (p := 2) (r := 3) (by kernel_rfl) (by kernel_rfl) (by kernel_rfl) (h5.get 0 rfl) Tryd.underlying39 rfl (info27p 0 0)) rfl ⟨rfl, h5.old⟩
end Go.Proofs.YtefjnfeckenmkaaDoor
