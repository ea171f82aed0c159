/-
 a point's Of.
-/
import Derived.Test.YtefjnfeckenmkaaGreatDoorC1
namespace Go.Proofs.YtefjnfeckenmkaaGreatDoor
set_option linter.unusedVariables false
set_option maxRecDepth 100000
set_option maxHeartbeats 2000000
open Go.RowKit Num
theorem POf_yes_odd (s : ByteArray) (hs : s.size = 32) (y : Nat) (hy : y < P) (hof : ofP (topS s) = some y) (rt : Nat) (hr : rt < P) (hroot : rootP (bsq y) = some rt) (hbit : numS s / 2 ^ 255 % 2 = 1) (hrt : rt ≠ 0) (w : World) (VV : Vars w) :
  Calls Tryz.prog 28 #[.string s] w fun e w' => e = .returned (.tuple #[.agg (pr (negP rt) (subP y 1)), .bool true]) ∧ Below w.heap.size w w' := by
 have H0 := HA.start w
 go_enter Tryz.func28, Tryz.ntmps28
 refine zsr ?_
 refine wl_make H0 39 run_alloc27 ?_
 intro q1 w2 h3
 refine zwv (.bool false) ?_
 refine znt ?_
 refine wp_seq ?_
 refine zsr ?_
 refine zwv (.string s) ?_
 refine zwu (run_len (s := s)) ?_
 refine zwu (run_nei (k := .i64) (a := s.size) (b := 32) false (decide_eq_false (fun hh => hh hs))) ?_
 refine znt ?_
 refine zcf ?_
 refine wp_skip ?_
 refine then_at rfl ?_
 refine zsr ?_
 refine zwv (.string s) ?_
 refine wl_call (v := .tuple #[.string (topS s), .bool true]) h3 enter37 #[.string s] ((by have hz := withoutTop_any s hs w2; rw [decide_eq_true hbit] at hz; exact hz)) ?_
 intro w4 h5
 refine zwv (.tuple #[.string (topS s), .bool true]) ?_
 refine zwv (.string (topS s)) ?_
 refine zwv (.bool true) ?_
 refine zwv (.string (topS s)) ?_
 refine zwv (.bool true) ?_
 refine znt ?_
 refine zsr ?_
 refine zwv (.string (topS s)) ?_
 refine zwc h5 enter38 (Of_yes (topS s) hof w4 (VV.below h5.old VV.big)) ?_
 intro w6 h7
 refine zwv (.tuple #[arr y, .bool true]) ?_
 refine zwv (arr y) ?_
 refine zwv (.bool true) ?_
 refine wl_make h7 37 run_alloc25 ?_
 intro q8 w9 h10
 refine wl_fill (c' := el y) h10 0 rfl (el_sz _ _) (info_el _) (one_el _) ?_
 intro w11 (h12 : HA w [(q8, 37, el y), (q1, 39, pr 0 0)] w11)
 refine zwv (.bool true) ?_
 refine znt ?_
 refine wp_seq ?_
 refine zsr ?_
 refine zwv (.bool true) ?_
 refine zwv (.bool false) ?_
 refine znt ?_
 refine zcf ?_
 refine wp_skip ?_
 refine then_at rfl ?_
 refine zsr ?_
 refine wl_load h12 0 rfl Tryz.underlying37 rfl (info_el _) ?_
 refine zwc h12 enter39 (beside_yes y hy rt hr hroot w11 (VV.below h12.old VV.big)) ?_
 intro w13 h14
 refine zwv (.tuple #[arr rt, .bool true]) ?_
 refine zwv (arr rt) ?_
 refine zwv (.bool true) ?_
 refine wl_make h14 37 run_alloc25 ?_
 intro q15 w16 h17
 refine wl_fill (c' := el rt) h17 0 rfl (el_sz _ _) (info_el _) (one_el _) ?_
 intro w18 (h19 : HA w [(q15, 37, el rt), (q8, 37, el y), (q1, 39, pr 0 0)] w18)
 refine zwv (.bool true) ?_
 refine znt ?_
 refine wp_seq ?_
 refine wp_seq ?_
 refine zrs ⟨(.string s :: un :: pt q1 :: .bool false :: .string (topS s) :: .bool true :: pt q8 :: .bool true :: pt q15 :: .string s :: iN .i64 s.size :: .bool false :: un :: .tuple #[.string (topS s), .bool true] :: .string s :: .tuple #[.string (topS s), .bool true] :: .string (topS s) :: .bool true :: .tuple #[arr y, .bool true] :: .string (topS s) :: .tuple #[arr y, .bool true] :: arr y :: .bool true :: .bool true :: .bool false :: un :: .tuple #[arr rt, .bool true] :: arr y :: .tuple #[arr rt, .bool true] :: arr rt :: .bool true :: .bool true :: .bool false :: .bool false :: .bool true :: .bool true :: arr rt :: arr 0 :: .bool false :: .bool false :: .bool false :: List.replicate 7 un).toArray, []⟩ (HA w [(q15, 37, el rt), (q8, 37, el y), (q1, 39, pr 0 0)]) h19.drew ?_ ?_
 ·refine zsp (.bool true) ?_
  refine zsp (.bool false) ?_
  refine zsp (.bool false) ?_
  refine zsp (.bool true) ?_
  refine zsp (.bool true) ?_
  refine zst (v := arr rt) (fun _ h => run_load_blk (h.get 0 rfl) Tryz.underlying37 rfl (info_el _)) ?_
  refine zsc enter41 HA.keep (fun w' h' => Small_any 0 (by decide) w') ?_
  refine zsc enter40 HA.keep (fun w' h' => Same_no rt 0 hr (by decide) hrt w') ?_
  refine zsp (.bool false) ?_
  refine zsp (.bool false) ?_
  exact AllSure.nil
 intro w20 h21
 refine then_at rfl ?_
 refine zcf ?_
 refine wp_skip ?_
 refine then_at rfl ?_
 refine wp_seq ?_
 refine zsr ?_
 refine zwv (.bool true) ?_
 refine znt ?_
 refine zct ?_
 refine wl_region ?_
 refine wl_load h21 0 rfl Tryz.underlying37 rfl (info_el _) ?_
 refine zwc h21 enter42 (Neg_any rt hr w20 (VV.below h21.old VV.big)) ?_
 intro w22 h23
 refine wl_fill (c' := el (negP rt)) h23 0 rfl (el_sz _ _) (info_el _) (one_el _) ?_
 intro w24 (h25 : HA w [(q15, 37, el (negP rt)), (q8, 37, el y), (q1, 39, pr 0 0)] w24)
 refine znt ?_
 refine zsr ?_
 refine wl_load h25 0 rfl Tryz.underlying37 rfl (info_el _) ?_
 refine wl_load h25 1 rfl Tryz.underlying37 rfl (info_el _) ?_
 refine zwc (v := .agg (pr (negP rt) (subP y 1))) (args := #[arr (negP rt), arr y]) h25 enter43 (at_any (negP rt) y (negP_lt _) hy w24 (VV.below h25.old VV.big)) ?_
 intro w26 h27
 refine wl_fill (c' := pr (negP rt) (subP y 1)) h27 2 rfl (pr_sz (negP rt) (subP y 1) 0 0) (info27p (negP rt) (subP y 1)) (one_pr (negP rt) (subP y 1)) ?_
 intro w28 (h29 : HA w [(q15, 37, el (negP rt)), (q8, 37, el y), (q1, 39, pr (negP rt) (subP y 1))] w28)
 refine zwv (.bool true) ?_
 refine znt ?_
 refine wp_ret ?_
 repeat first | refine then_ret ?_ | refine block_ret ?_
 exact bodyPost_ret (res_cell_tmp (p := 2) (r := 3) (by kernel_rfl) (by kernel_rfl) (by kernel_rfl) (h29.get 2 rfl) Tryz.underlying39 rfl (info27p (negP rt) (subP y 1))) rfl ⟨rfl, h29.old⟩
theorem POf_yes_even (s : ByteArray) (hs : s.size = 32) (y : Nat) (hy : y < P) (hof : ofP (topS s) = some y) (rt : Nat) (hr : rt < P) (hroot : rootP (bsq y) = some rt) (hbit : ¬ numS s / 2 ^ 255 % 2 = 1) (w : World) (VV : Vars w) :
  Calls Tryz.prog 28 #[.string s] w fun e w' => e = .returned (.tuple #[.agg (pr rt (subP y 1)), .bool true]) ∧ Below w.heap.size w w' := by
 have H0 := HA.start w
 go_enter Tryz.func28, Tryz.ntmps28
 refine zsr ?_
 refine wl_make H0 39 run_alloc27 ?_
 intro q1 w2 h3
 refine zwv (.bool false) ?_
 refine znt ?_
 refine wp_seq ?_
 refine zsr ?_
 refine zwv (.string s) ?_
 refine zwu (run_len (s := s)) ?_
 refine zwu (run_nei (k := .i64) (a := s.size) (b := 32) false (decide_eq_false (fun hh => hh hs))) ?_
 refine znt ?_
 refine zcf ?_
 refine wp_skip ?_
 refine then_at rfl ?_
 refine zsr ?_
 refine zwv (.string s) ?_
 refine wl_call (v := .tuple #[.string (topS s), .bool false]) h3 enter37 #[.string s] ((by have hz := withoutTop_any s hs w2; rw [decide_eq_false hbit] at hz; exact hz)) ?_
 intro w4 h5
 refine zwv (.tuple #[.string (topS s), .bool false]) ?_
 refine zwv (.string (topS s)) ?_
 refine zwv (.bool false) ?_
 refine zwv (.string (topS s)) ?_
 refine zwv (.bool false) ?_
 refine znt ?_
 refine zsr ?_
 refine zwv (.string (topS s)) ?_
 refine zwc h5 enter38 (Of_yes (topS s) hof w4 (VV.below h5.old VV.big)) ?_
 intro w6 h7
 refine zwv (.tuple #[arr y, .bool true]) ?_
 refine zwv (arr y) ?_
 refine zwv (.bool true) ?_
 refine wl_make h7 37 run_alloc25 ?_
 intro q8 w9 h10
 refine wl_fill (c' := el y) h10 0 rfl (el_sz _ _) (info_el _) (one_el _) ?_
 intro w11 (h12 : HA w [(q8, 37, el y), (q1, 39, pr 0 0)] w11)
 refine zwv (.bool true) ?_
 refine znt ?_
 refine wp_seq ?_
 refine zsr ?_
 refine zwv (.bool true) ?_
 refine zwv (.bool false) ?_
 refine znt ?_
 refine zcf ?_
 refine wp_skip ?_
 refine then_at rfl ?_
 refine zsr ?_
 refine wl_load h12 0 rfl Tryz.underlying37 rfl (info_el _) ?_
 refine zwc h12 enter39 (beside_yes y hy rt hr hroot w11 (VV.below h12.old VV.big)) ?_
 intro w13 h14
 refine zwv (.tuple #[arr rt, .bool true]) ?_
 refine zwv (arr rt) ?_
 refine zwv (.bool true) ?_
 refine wl_make h14 37 run_alloc25 ?_
 intro q15 w16 h17
 refine wl_fill (c' := el rt) h17 0 rfl (el_sz _ _) (info_el _) (one_el _) ?_
 intro w18 (h19 : HA w [(q15, 37, el rt), (q8, 37, el y), (q1, 39, pr 0 0)] w18)
 refine zwv (.bool true) ?_
 refine znt ?_
 refine wp_seq ?_
 refine wp_seq ?_
 refine zrs ⟨(.string s :: un :: pt q1 :: .bool false :: .string (topS s) :: .bool false :: pt q8 :: .bool true :: pt q15 :: .string s :: iN .i64 s.size :: .bool false :: un :: .tuple #[.string (topS s), .bool false] :: .string s :: .tuple #[.string (topS s), .bool false] :: .string (topS s) :: .bool false :: .tuple #[arr y, .bool true] :: .string (topS s) :: .tuple #[arr y, .bool true] :: arr y :: .bool true :: .bool true :: .bool false :: un :: .tuple #[arr rt, .bool true] :: arr y :: .tuple #[arr rt, .bool true] :: arr rt :: .bool true :: .bool true :: .bool false :: .bool false :: .bool false :: .bool false :: un :: un :: un :: .bool false :: .bool false :: List.replicate 7 un).toArray, []⟩ (HA w [(q15, 37, el rt), (q8, 37, el y), (q1, 39, pr 0 0)]) h19.drew ?_ ?_
 ·refine zsp (.bool true) ?_
  refine zsp (.bool false) ?_
  refine zsp (.bool false) ?_
  refine zsp (.bool false) ?_
  refine zsp (.bool false) ?_
  refine zsk ?_
  refine zsk ?_
  refine zsk ?_
  refine zsp (.bool false) ?_
  refine zsp (.bool false) ?_
  exact AllSure.nil
 intro w20 h21
 refine then_at rfl ?_
 refine zcf ?_
 refine wp_skip ?_
 refine then_at rfl ?_
 refine wp_seq ?_
 refine zsr ?_
 refine zwv (.bool false) ?_
 refine znt ?_
 refine zcf ?_
 refine wp_skip ?_
 refine then_at rfl ?_
 refine zsr ?_
 refine wl_load h21 0 rfl Tryz.underlying37 rfl (info_el _) ?_
 refine wl_load h21 1 rfl Tryz.underlying37 rfl (info_el _) ?_
 refine zwc h21 enter43 (at_any rt y hr hy w20 (VV.below h21.old VV.big)) ?_
 intro w22 h23
 refine wl_fill (c' := pr rt (subP y 1)) h23 2 rfl (pr_sz rt (subP y 1) 0 0) (info27p rt (subP y 1)) (one_pr rt (subP y 1)) ?_
 intro w24 (h25 : HA w [(q15, 37, el rt), (q8, 37, el y), (q1, 39, pr rt (subP y 1))] w24)
 refine zwv (.bool true) ?_
 refine znt ?_
 refine wp_ret ?_
 repeat first | refine then_ret ?_ | refine block_ret ?_
 exact bodyPost_ret (res_cell_tmp (p := 2) (r := 3) (by kernel_rfl) (by kernel_rfl) (by kernel_rfl) (h25.get 2 rfl) Tryz.underlying39 rfl (info27p rt (subP y 1))) rfl ⟨rfl, h25.old⟩
theorem POf_no_zero (s : ByteArray) (hs : s.size = 32) (y : Nat) (hy : y < P) (hof : ofP (topS s) = some y) (rt : Nat) (hr : rt < P) (hroot : rootP (bsq y) = some rt) (hbit : numS s / 2 ^ 255 % 2 = 1) (hrt : rt = 0) (w : World) (VV : Vars w) :
  Calls Tryz.prog 28 #[.string s] w fun e w' => e = .returned (.tuple #[.agg (pr 0 0), .bool false]) ∧ Below w.heap.size w w' := by
 have H0 := HA.start w
 go_enter Tryz.func28, Tryz.ntmps28
 refine zsr ?_
 refine wl_make H0 39 run_alloc27 ?_
 intro q1 w2 h3
 refine zwv (.bool false) ?_
 refine znt ?_
 refine wp_seq ?_
 refine zsr ?_
 refine zwv (.string s) ?_
 refine zwu (run_len (s := s)) ?_
 refine zwu (run_nei (k := .i64) (a := s.size) (b := 32) false (decide_eq_false (fun hh => hh hs))) ?_
 refine znt ?_
 refine zcf ?_
 refine wp_skip ?_
 refine then_at rfl ?_
 refine zsr ?_
 refine zwv (.string s) ?_
 refine wl_call (v := .tuple #[.string (topS s), .bool true]) h3 enter37 #[.string s] ((by have hz := withoutTop_any s hs w2; rw [decide_eq_true hbit] at hz; exact hz)) ?_
 intro w4 h5
 refine zwv (.tuple #[.string (topS s), .bool true]) ?_
 refine zwv (.string (topS s)) ?_
 refine zwv (.bool true) ?_
 refine zwv (.string (topS s)) ?_
 refine zwv (.bool true) ?_
 refine znt ?_
 refine zsr ?_
 refine zwv (.string (topS s)) ?_
 refine zwc h5 enter38 (Of_yes (topS s) hof w4 (VV.below h5.old VV.big)) ?_
 intro w6 h7
 refine zwv (.tuple #[arr y, .bool true]) ?_
 refine zwv (arr y) ?_
 refine zwv (.bool true) ?_
 refine wl_make h7 37 run_alloc25 ?_
 intro q8 w9 h10
 refine wl_fill (c' := el y) h10 0 rfl (el_sz _ _) (info_el _) (one_el _) ?_
 intro w11 (h12 : HA w [(q8, 37, el y), (q1, 39, pr 0 0)] w11)
 refine zwv (.bool true) ?_
 refine znt ?_
 refine wp_seq ?_
 refine zsr ?_
 refine zwv (.bool true) ?_
 refine zwv (.bool false) ?_
 refine znt ?_
 refine zcf ?_
 refine wp_skip ?_
 refine then_at rfl ?_
 refine zsr ?_
 refine wl_load h12 0 rfl Tryz.underlying37 rfl (info_el _) ?_
 refine zwc h12 enter39 (beside_yes y hy rt hr hroot w11 (VV.below h12.old VV.big)) ?_
 intro w13 h14
 refine zwv (.tuple #[arr rt, .bool true]) ?_
 refine zwv (arr rt) ?_
 refine zwv (.bool true) ?_
 refine wl_make h14 37 run_alloc25 ?_
 intro q15 w16 h17
 refine wl_fill (c' := el rt) h17 0 rfl (el_sz _ _) (info_el _) (one_el _) ?_
 intro w18 (h19 : HA w [(q15, 37, el rt), (q8, 37, el y), (q1, 39, pr 0 0)] w18)
 refine zwv (.bool true) ?_
 refine znt ?_
 refine wp_seq ?_
 refine wp_seq ?_
 refine zrs ⟨(.string s :: un :: pt q1 :: .bool false :: .string (topS s) :: .bool true :: pt q8 :: .bool true :: pt q15 :: .string s :: iN .i64 s.size :: .bool false :: un :: .tuple #[.string (topS s), .bool true] :: .string s :: .tuple #[.string (topS s), .bool true] :: .string (topS s) :: .bool true :: .tuple #[arr y, .bool true] :: .string (topS s) :: .tuple #[arr y, .bool true] :: arr y :: .bool true :: .bool true :: .bool false :: un :: .tuple #[arr rt, .bool true] :: arr y :: .tuple #[arr rt, .bool true] :: arr rt :: .bool true :: .bool true :: .bool false :: .bool false :: .bool true :: .bool true :: arr rt :: arr 0 :: .bool true :: .bool true :: .bool true :: List.replicate 7 un).toArray, []⟩ (HA w [(q15, 37, el rt), (q8, 37, el y), (q1, 39, pr 0 0)]) h19.drew ?_ ?_
 ·refine zsp (.bool true) ?_
  refine zsp (.bool false) ?_
  refine zsp (.bool false) ?_
  refine zsp (.bool true) ?_
  refine zsp (.bool true) ?_
  refine zst (v := arr rt) (fun _ h => run_load_blk (h.get 0 rfl) Tryz.underlying37 rfl (info_el _)) ?_
  refine zsc enter41 HA.keep (fun w' h' => Small_any 0 (by decide) w') ?_
  refine zsc enter40 HA.keep (fun w' h' => Same_yes rt 0 hr (by decide) hrt w') ?_
  refine zsp (.bool true) ?_
  refine zsp (.bool true) ?_
  exact AllSure.nil
 intro w20 h21
 refine then_at rfl ?_
 refine zct ?_
 refine zsr ?_
 refine zwu run_build27z ?_
 refine wl_fill (c' := pr 0 0) h21 2 rfl (pr_sz 0 0 0 0) (info27p 0 0) (one_pr 0 0) ?_
 intro w22 (h23 : HA w [(q15, 37, el rt), (q8, 37, el y), (q1, 39, pr 0 0)] w22)
 refine zwv (.bool false) ?_
 refine znt ?_
 refine wp_ret ?_
 repeat first | refine then_ret ?_ | refine block_ret ?_
 exact bodyPost_ret (res_cell_tmp (p := 2) (r := 3) (by kernel_rfl) (by kernel_rfl) (by kernel_rfl) (h23.get 2 rfl) Tryz.underlying39 rfl (info27p 0 0)) rfl ⟨rfl, h23.old⟩
theorem POf_no_root1 (s : ByteArray) (hs : s.size = 32) (y : Nat) (hy : y < P) (hof : ofP (topS s) = some y) (hroot : rootP (bsq y) = none) (hbit : numS s / 2 ^ 255 % 2 = 1) (w : World) (VV : Vars w) :
  Calls Tryz.prog 28 #[.string s] w fun e w' => e = .returned (.tuple #[.agg (pr 0 0), .bool false]) ∧ Below w.heap.size w w' := by
 have H0 := HA.start w
 go_enter Tryz.func28, Tryz.ntmps28
 refine zsr ?_
 refine wl_make H0 39 run_alloc27 ?_
 intro q1 w2 h3
 refine zwv (.bool false) ?_
 refine znt ?_
 refine wp_seq ?_
 refine zsr ?_
 refine zwv (.string s) ?_
 refine zwu (run_len (s := s)) ?_
 refine zwu (run_nei (k := .i64) (a := s.size) (b := 32) false (decide_eq_false (fun hh => hh hs))) ?_
 refine znt ?_
 refine zcf ?_
 refine wp_skip ?_
 refine then_at rfl ?_
 refine zsr ?_
 refine zwv (.string s) ?_
 refine wl_call (v := .tuple #[.string (topS s), .bool true]) h3 enter37 #[.string s] ((by have hz := withoutTop_any s hs w2; rw [decide_eq_true hbit] at hz; exact hz)) ?_
 intro w4 h5
 refine zwv (.tuple #[.string (topS s), .bool true]) ?_
 refine zwv (.string (topS s)) ?_
 refine zwv (.bool true) ?_
 refine zwv (.string (topS s)) ?_
 refine zwv (.bool true) ?_
 refine znt ?_
 refine zsr ?_
 refine zwv (.string (topS s)) ?_
 refine zwc h5 enter38 (Of_yes (topS s) hof w4 (VV.below h5.old VV.big)) ?_
 intro w6 h7
 refine zwv (.tuple #[arr y, .bool true]) ?_
 refine zwv (arr y) ?_
 refine zwv (.bool true) ?_
 refine wl_make h7 37 run_alloc25 ?_
 intro q8 w9 h10
 refine wl_fill (c' := el y) h10 0 rfl (el_sz _ _) (info_el _) (one_el _) ?_
 intro w11 (h12 : HA w [(q8, 37, el y), (q1, 39, pr 0 0)] w11)
 refine zwv (.bool true) ?_
 refine znt ?_
 refine wp_seq ?_
 refine zsr ?_
 refine zwv (.bool true) ?_
 refine zwv (.bool false) ?_
 refine znt ?_
 refine zcf ?_
 refine wp_skip ?_
 refine then_at rfl ?_
 refine zsr ?_
 refine wl_load h12 0 rfl Tryz.underlying37 rfl (info_el _) ?_
 refine zwc h12 enter39 (beside_no y hy hroot w11 (VV.below h12.old VV.big)) ?_
 intro w13 h14
 refine zwv (.tuple #[arr 0, .bool false]) ?_
 refine zwv (arr 0) ?_
 refine zwv (.bool false) ?_
 refine wl_make h14 37 run_alloc25 ?_
 intro q15 w16 h17
 refine wl_fill (c' := el 0) h17 0 rfl (el_sz _ _) (info_el _) (one_el _) ?_
 intro w18 (h19 : HA w [(q15, 37, el 0), (q8, 37, el y), (q1, 39, pr 0 0)] w18)
 refine zwv (.bool false) ?_
 refine znt ?_
 refine wp_seq ?_
 refine wp_seq ?_
 refine zrs ⟨(.string s :: un :: pt q1 :: .bool false :: .string (topS s) :: .bool true :: pt q8 :: .bool false :: pt q15 :: .string s :: iN .i64 s.size :: .bool false :: un :: .tuple #[.string (topS s), .bool true] :: .string s :: .tuple #[.string (topS s), .bool true] :: .string (topS s) :: .bool true :: .tuple #[arr y, .bool true] :: .string (topS s) :: .tuple #[arr y, .bool true] :: arr y :: .bool true :: .bool true :: .bool false :: un :: .tuple #[arr 0, .bool false] :: arr y :: .tuple #[arr 0, .bool false] :: arr 0 :: .bool false :: .bool false :: .bool true :: .bool true :: un :: un :: un :: un :: un :: un :: .bool true :: List.replicate 7 un).toArray, []⟩ (HA w [(q15, 37, el 0), (q8, 37, el y), (q1, 39, pr 0 0)]) h19.drew ?_ ?_
 ·refine zsp (.bool false) ?_
  refine zsp (.bool true) ?_
  refine zsp (.bool true) ?_
  refine zsk ?_
  refine zsk ?_
  refine zsk ?_
  refine zsk ?_
  refine zsk ?_
  refine zsk ?_
  refine zsp (.bool true) ?_
  exact AllSure.nil
 intro w20 h21
 refine then_at rfl ?_
 refine zct ?_
 refine zsr ?_
 refine zwu run_build27z ?_
 refine wl_fill (c' := pr 0 0) h21 2 rfl (pr_sz 0 0 0 0) (info27p 0 0) (one_pr 0 0) ?_
 intro w22 (h23 : HA w [(q15, 37, el 0), (q8, 37, el y), (q1, 39, pr 0 0)] w22)
 refine zwv (.bool false) ?_
 refine znt ?_
 refine wp_ret ?_
 repeat first | refine then_ret ?_ | refine block_ret ?_
 exact bodyPost_ret (res_cell_tmp (p := 2) (r := 3) (by kernel_rfl) (by kernel_rfl) (by kernel_rfl) (h23.get 2 rfl) Tryz.underlying39 rfl (info27p 0 0)) rfl ⟨rfl, h23.old⟩
theorem POf_no_of1 (s : ByteArray) (hs : s.size = 32) (hof : ofP (topS s) = none) (hbit : numS s / 2 ^ 255 % 2 = 1) (w : World) (VV : Vars w) :
  Calls Tryz.prog 28 #[.string s] w fun e w' => e = .returned (.tuple #[.agg (pr 0 0), .bool false]) ∧ Below w.heap.size w w' := by
 have H0 := HA.start w
 go_enter Tryz.func28, Tryz.ntmps28
 refine zsr ?_
 refine wl_make H0 39 run_alloc27 ?_
 intro q1 w2 h3
 refine zwv (.bool false) ?_
 refine znt ?_
 refine wp_seq ?_
 refine zsr ?_
 refine zwv (.string s) ?_
 refine zwu (run_len (s := s)) ?_
 refine zwu (run_nei (k := .i64) (a := s.size) (b := 32) false (decide_eq_false (fun hh => hh hs))) ?_
 refine znt ?_
 refine zcf ?_
 refine wp_skip ?_
 refine then_at rfl ?_
 refine zsr ?_
 refine zwv (.string s) ?_
 refine wl_call (v := .tuple #[.string (topS s), .bool true]) h3 enter37 #[.string s] ((by have hz := withoutTop_any s hs w2; rw [decide_eq_true hbit] at hz; exact hz)) ?_
 intro w4 h5
 refine zwv (.tuple #[.string (topS s), .bool true]) ?_
 refine zwv (.string (topS s)) ?_
 refine zwv (.bool true) ?_
 refine zwv (.string (topS s)) ?_
 refine zwv (.bool true) ?_
 refine znt ?_
 refine zsr ?_
 refine zwv (.string (topS s)) ?_
 refine zwc h5 enter38 (Of_no (topS s) hof w4 (VV.below h5.old VV.big)) ?_
 intro w6 h7
 refine zwv (.tuple #[arr 0, .bool false]) ?_
 refine zwv (arr 0) ?_
 refine zwv (.bool false) ?_
 refine wl_make h7 37 run_alloc25 ?_
 intro q8 w9 h10
 refine wl_fill (c' := el 0) h10 0 rfl (el_sz _ _) (info_el _) (one_el _) ?_
 intro w11 (h12 : HA w [(q8, 37, el 0), (q1, 39, pr 0 0)] w11)
 refine zwv (.bool false) ?_
 refine znt ?_
 refine wp_seq ?_
 refine zsr ?_
 refine zwv (.bool false) ?_
 refine zwv (.bool true) ?_
 refine znt ?_
 refine zct ?_
 refine zsr ?_
 refine zwu run_build27z ?_
 refine wl_fill (c' := pr 0 0) h12 1 rfl (pr_sz 0 0 0 0) (info27p 0 0) (one_pr 0 0) ?_
 intro w13 (h14 : HA w [(q8, 37, el 0), (q1, 39, pr 0 0)] w13)
 refine zwv (.bool false) ?_
 refine znt ?_
 refine wp_ret ?_
 repeat first | refine then_ret ?_ | refine block_ret ?_
 exact bodyPost_ret (res_cell_tmp (p := 2) (r := 3) (by kernel_rfl) (by kernel_rfl) (by kernel_rfl) (h14.get 1 rfl) Tryz.underlying39 rfl (info27p 0 0)) rfl ⟨rfl, h14.old⟩
theorem POf_no_root0 (s : ByteArray) (hs : s.size = 32) (y : Nat) (hy : y < P) (hof : ofP (topS s) = some y) (hroot : rootP (bsq y) = none) (hbit : ¬ numS s / 2 ^ 255 % 2 = 1) (w : World) (VV : Vars w) :
  Calls Tryz.prog 28 #[.string s] w fun e w' => e = .returned (.tuple #[.agg (pr 0 0), .bool false]) ∧ Below w.heap.size w w' := by
 have H0 := HA.start w
 go_enter Tryz.func28, Tryz.ntmps28
 refine zsr ?_
 refine wl_make H0 39 run_alloc27 ?_
 intro q1 w2 h3
 refine zwv (.bool false) ?_
 refine znt ?_
 refine wp_seq ?_
 refine zsr ?_
 refine zwv (.string s) ?_
 refine zwu (run_len (s := s)) ?_
 refine zwu (run_nei (k := .i64) (a := s.size) (b := 32) false (decide_eq_false (fun hh => hh hs))) ?_
 refine znt ?_
 refine zcf ?_
 refine wp_skip ?_
 refine then_at rfl ?_
 refine zsr ?_
 refine zwv (.string s) ?_
 refine wl_call (v := .tuple #[.string (topS s), .bool false]) h3 enter37 #[.string s] ((by have hz := withoutTop_any s hs w2; rw [decide_eq_false hbit] at hz; exact hz)) ?_
 intro w4 h5
 refine zwv (.tuple #[.string (topS s), .bool false]) ?_
 refine zwv (.string (topS s)) ?_
 refine zwv (.bool false) ?_
 refine zwv (.string (topS s)) ?_
 refine zwv (.bool false) ?_
 refine znt ?_
 refine zsr ?_
 refine zwv (.string (topS s)) ?_
 refine zwc h5 enter38 (Of_yes (topS s) hof w4 (VV.below h5.old VV.big)) ?_
 intro w6 h7
 refine zwv (.tuple #[arr y, .bool true]) ?_
 refine zwv (arr y) ?_
 refine zwv (.bool true) ?_
 refine wl_make h7 37 run_alloc25 ?_
 intro q8 w9 h10
 refine wl_fill (c' := el y) h10 0 rfl (el_sz _ _) (info_el _) (one_el _) ?_
 intro w11 (h12 : HA w [(q8, 37, el y), (q1, 39, pr 0 0)] w11)
 refine zwv (.bool true) ?_
 refine znt ?_
 refine wp_seq ?_
 refine zsr ?_
 refine zwv (.bool true) ?_
 refine zwv (.bool false) ?_
 refine znt ?_
 refine zcf ?_
 refine wp_skip ?_
 refine then_at rfl ?_
 refine zsr ?_
 refine wl_load h12 0 rfl Tryz.underlying37 rfl (info_el _) ?_
 refine zwc h12 enter39 (beside_no y hy hroot w11 (VV.below h12.old VV.big)) ?_
 intro w13 h14
 refine zwv (.tuple #[arr 0, .bool false]) ?_
 refine zwv (arr 0) ?_
 refine zwv (.bool false) ?_
 refine wl_make h14 37 run_alloc25 ?_
 intro q15 w16 h17
 refine wl_fill (c' := el 0) h17 0 rfl (el_sz _ _) (info_el _) (one_el _) ?_
 intro w18 (h19 : HA w [(q15, 37, el 0), (q8, 37, el y), (q1, 39, pr 0 0)] w18)
 refine zwv (.bool false) ?_
 refine znt ?_
 refine wp_seq ?_
 refine wp_seq ?_
 refine zrs ⟨(.string s :: un :: pt q1 :: .bool false :: .string (topS s) :: .bool false :: pt q8 :: .bool false :: pt q15 :: .string s :: iN .i64 s.size :: .bool false :: un :: .tuple #[.string (topS s), .bool false] :: .string s :: .tuple #[.string (topS s), .bool false] :: .string (topS s) :: .bool false :: .tuple #[arr y, .bool true] :: .string (topS s) :: .tuple #[arr y, .bool true] :: arr y :: .bool true :: .bool true :: .bool false :: un :: .tuple #[arr 0, .bool false] :: arr y :: .tuple #[arr 0, .bool false] :: arr 0 :: .bool false :: .bool false :: .bool true :: .bool true :: un :: un :: un :: un :: un :: un :: .bool true :: List.replicate 7 un).toArray, []⟩ (HA w [(q15, 37, el 0), (q8, 37, el y), (q1, 39, pr 0 0)]) h19.drew ?_ ?_
 ·refine zsp (.bool false) ?_
  refine zsp (.bool true) ?_
  refine zsp (.bool true) ?_
  refine zsk ?_
  refine zsk ?_
  refine zsk ?_
  refine zsk ?_
  refine zsk ?_
  refine zsk ?_
  refine zsp (.bool true) ?_
  exact AllSure.nil
 intro w20 h21
 refine then_at rfl ?_
 refine zct ?_
 refine zsr ?_
 refine zwu run_build27z ?_
 refine wl_fill (c' := pr 0 0) h21 2 rfl (pr_sz 0 0 0 0) (info27p 0 0) (one_pr 0 0) ?_
 intro w22 (h23 : HA w [(q15, 37, el 0), (q8, 37, el y), (q1, 39, pr 0 0)] w22)
 refine zwv (.bool false) ?_
 refine znt ?_
 refine wp_ret ?_
 repeat first | refine then_ret ?_ | refine block_ret ?_
 exact bodyPost_ret (res_cell_tmp (p := 2) (r := 3) (by kernel_rfl) (by kernel_rfl) (by kernel_rfl) (h23.get 2 rfl) Tryz.underlying39 rfl (info27p 0 0)) rfl ⟨rfl, h23.old⟩
theorem POf_no_of0 (s : ByteArray) (hs : s.size = 32) (hof : ofP (topS s) = none) (hbit : ¬ numS s / 2 ^ 255 % 2 = 1) (w : World) (VV : Vars w) :
  Calls Tryz.prog 28 #[.string s] w fun e w' => e = .returned (.tuple #[.agg (pr 0 0), .bool false]) ∧ Below w.heap.size w w' := by
 have H0 := HA.start w
 go_enter Tryz.func28, Tryz.ntmps28
 refine zsr ?_
 refine wl_make H0 39 run_alloc27 ?_
 intro q1 w2 h3
 refine zwv (.bool false) ?_
 refine znt ?_
 refine wp_seq ?_
 refine zsr ?_
 refine zwv (.string s) ?_
 refine zwu (run_len (s := s)) ?_
 refine zwu (run_nei (k := .i64) (a := s.size) (b := 32) false (decide_eq_false (fun hh => hh hs))) ?_
 refine znt ?_
 refine zcf ?_
 refine wp_skip ?_
 refine then_at rfl ?_
 refine zsr ?_
 refine zwv (.string s) ?_
 refine wl_call (v := .tuple #[.string (topS s), .bool false]) h3 enter37 #[.string s] ((by have hz := withoutTop_any s hs w2; rw [decide_eq_false hbit] at hz; exact hz)) ?_
 intro w4 h5
 refine zwv (.tuple #[.string (topS s), .bool false]) ?_
 refine zwv (.string (topS s)) ?_
 refine zwv (.bool false) ?_
 refine zwv (.string (topS s)) ?_
 refine zwv (.bool false) ?_
 refine znt ?_
 refine zsr ?_
 refine zwv (.string (topS s)) ?_
 refine zwc h5 enter38 (Of_no (topS s) hof w4 (VV.below h5.old VV.big)) ?_
 intro w6 h7
 refine zwv (.tuple #[arr 0, .bool false]) ?_
 refine zwv (arr 0) ?_
 refine zwv (.bool false) ?_
 refine wl_make h7 37 run_alloc25 ?_
 intro q8 w9 h10
 refine wl_fill (c' := el 0) h10 0 rfl (el_sz _ _) (info_el _) (one_el _) ?_
 intro w11 (h12 : HA w [(q8, 37, el 0), (q1, 39, pr 0 0)] w11)
 refine zwv (.bool false) ?_
 refine znt ?_
 refine wp_seq ?_
 refine zsr ?_
 refine zwv (.bool false) ?_
 refine zwv (.bool true) ?_
 refine znt ?_
 refine zct ?_
 refine zsr ?_
 refine zwu run_build27z ?_
 refine wl_fill (c' := pr 0 0) h12 1 rfl (pr_sz 0 0 0 0) (info27p 0 0) (one_pr 0 0) ?_
 intro w13 (h14 : HA w [(q8, 37, el 0), (q1, 39, pr 0 0)] w13)
 refine zwv (.bool false) ?_
 refine znt ?_
 refine wp_ret ?_
 repeat first | refine then_ret ?_ | refine block_ret ?_
 exact bodyPost_ret (res_cell_tmp (p := 2) (r := 3) (by kernel_rfl) (by kernel_rfl) (by kernel_rfl) (h14.get 1 rfl) Tryz.underlying39 rfl (info27p 0 0)) rfl ⟨rfl, h14.old⟩
theorem POf_no_size (s : ByteArray) (hs : s.size ≠ 32) (w : World) (VV : Vars w) :
  Calls Tryz.prog 28 #[.string s] w fun e w' => e = .returned (.tuple #[.agg (pr 0 0), .bool false]) ∧ Below w.heap.size w w' := by
 have H0 := HA.start w
 go_enter Tryz.func28, Tryz.ntmps28
 refine zsr ?_
 refine wl_make H0 39 run_alloc27 ?_
 intro q1 w2 h3
 refine zwv (.bool false) ?_
 refine znt ?_
 refine wp_seq ?_
 refine zsr ?_
 refine zwv (.string s) ?_
 refine zwu (run_len (s := s)) ?_
 refine zwu (run_nei (k := .i64) (a := s.size) (b := 32) true (decide_eq_true hs)) ?_
 refine znt ?_
 refine zct ?_
 refine zsr ?_
 refine zwu run_build27z ?_
 refine wl_fill (c' := pr 0 0) h3 0 rfl (pr_sz 0 0 0 0) (info27p 0 0) (one_pr 0 0) ?_
 intro w4 (h5 : HA w [(q1, 39, pr 0 0)] w4)
 refine zwv (.bool false) ?_
 refine znt ?_
 refine wp_ret ?_
 repeat first | refine then_ret ?_ | refine block_ret ?_
 exact bodyPost_ret (res_cell_tmp (p := 2) (r := 3) (by kernel_rfl) (by kernel_rfl) (by kernel_rfl) (h5.get 0 rfl) Tryz.underlying39 rfl (info27p 0 0)) rfl ⟨rfl, h5.old⟩
end Go.Proofs.YtefjnfeckenmkaaGreatDoor
