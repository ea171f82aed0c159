/-
  the law of texts that are points.
-/
import Derived.Test.YtpaendmdcdeemaaDoorCvZ
import Derived.Test.YtpaendmdcdeemaaDoorCuX3
namespace Go.Proofs.YtpaendmdcdeemaaDoor
open Go.RowKit Num


set_option linter.unusedVariables false in
set_option maxRecDepth 100000 in
set_option maxHeartbeats 2000000 in
theorem CurveReads_any (s : ByteArray) (w : World) (VV : Vars w) :
    Calls Tryd.prog 3 #[.string s] w fun e w' => e = .returned (.bool true) ∧ Below w.heap.size w w' := by
  have H0 := HA.start w
  go_enter Tryd.func3, Tryd.ntmps3
  refine wp_seq ?_
  -- region 0
  refine wl_region ?_
  refine wl_val (.bool false) (by kernel_rfl) (by kernel_rfl) ?_
  refine wl_nil ?_
  refine then_at (F := ⟨(.string s :: un :: .bool false :: List.replicate 27 un).toArray, []⟩) (by kernel_rfl) ?_
  refine wp_seq ?_
  rcases both_of s with ⟨a, b, p, q, hp, hq, hc, hd⟩ | ⟨hc, hd⟩
  · -- region 1
    refine wl_region ?_
    refine wl_val (.string s) (by kernel_rfl) (by kernel_rfl) ?_
    refine wl_call (v := .tuple #[.agg (pr a b), .bool true]) H0 (by kernel_rfl) enter12 #[.string s] (by kernel_rfl) (hc w (VV.below H0.old VV.big)) ?_
    intro w1 h2
    refine wl_val (.tuple #[.agg (pr a b), .bool true]) (by kernel_rfl) (by kernel_rfl) ?_
    refine wl_val (.agg (pr a b)) (by kernel_rfl) (by kernel_rfl) ?_
    refine wl_val (.bool true) (by kernel_rfl) (by kernel_rfl) ?_
    refine wl_make h2 27 (by kernel_rfl) run_alloc27 ?_
    intro q3 w4 h5
    refine wl_fill (c' := pr a b) h5 0 rfl (by kernel_rfl) (by kernel_rfl) (by kernel_rfl) (pr_sz a b 0 0) (info27p a b) (one_pr a b) ?_
    intro w6 (h7 : HA w [(q3, 27, pr a b)] w6)
    refine wl_val (.bool true) (by kernel_rfl) (by kernel_rfl) ?_
    refine wl_nil ?_
    refine then_at (F := ⟨(.string s :: un :: .bool false :: pt q3 :: .bool true :: un :: un :: .tuple #[.agg (pr a b), .bool true] :: .string s :: .tuple #[.agg (pr a b), .bool true] :: .agg (pr a b) :: .bool true :: List.replicate 18 un).toArray, []⟩) (by kernel_rfl) ?_
    refine wp_seq ?_
    -- region 2
    refine wl_region ?_
    refine wl_val (.string s) (by kernel_rfl) (by kernel_rfl) ?_
    refine wl_call (v := .tuple #[.agg (rq q), .bool true]) h7 (by kernel_rfl) enter13 #[.string s] (by kernel_rfl) (hd w6) ?_
    intro w8 h9
    refine wl_val (.tuple #[.agg (rq q), .bool true]) (by kernel_rfl) (by kernel_rfl) ?_
    refine wl_val (.agg (rq q)) (by kernel_rfl) (by kernel_rfl) ?_
    refine wl_val (.bool true) (by kernel_rfl) (by kernel_rfl) ?_
    refine wl_make h9 34 (by kernel_rfl) run_alloc34 ?_
    intro q10 w11 h12
    refine wl_fill (c' := rq q) h12 0 rfl (by kernel_rfl) (by kernel_rfl) (by kernel_rfl) (rq_sz q (Q4.mk 0 0 0 0)) (info34q q) (one_rq q) ?_
    intro w13 (h14 : HA w [(q10, 34, rq q), (q3, 27, pr a b)] w13)
    refine wl_val (.bool true) (by kernel_rfl) (by kernel_rfl) ?_
    refine wl_nil ?_
    refine then_at (F := ⟨(.string s :: un :: .bool false :: pt q3 :: .bool true :: pt q10 :: .bool true :: .tuple #[.agg (pr a b), .bool true] :: .string s :: .tuple #[.agg (pr a b), .bool true] :: .agg (pr a b) :: .bool true :: .tuple #[.agg (rq q), .bool true] :: .string s :: .tuple #[.agg (rq q), .bool true] :: .agg (rq q) :: .bool true :: List.replicate 13 un).toArray, []⟩) (by kernel_rfl) ?_
    refine wp_seq ?_
    -- region 3
    refine wp_region_sure ⟨(.string s :: un :: .bool true :: pt q3 :: .bool true :: pt q10 :: .bool true :: .tuple #[.agg (pr a b), .bool true] :: .string s :: .tuple #[.agg (pr a b), .bool true] :: .agg (pr a b) :: .bool true :: .tuple #[.agg (rq q), .bool true] :: .string s :: .tuple #[.agg (rq q), .bool true] :: .agg (rq q) :: .bool true :: .bool true :: .bool true :: .bool true :: .bool true :: .agg (pr a b) :: .string (encP p) :: .agg (rq q) :: .string (encP p) :: .bool true :: .bool true :: .bool true :: .bool true :: .bool true :: List.replicate 0 un).toArray, []⟩ (HA w [(q10, 34, rq q), (q3, 27, pr a b)]) [.bool true, .bool true, .bool true, .bool true, .agg (pr a b), .string (encP p), .agg (rq q), .string (encP p), .bool true, .bool true, .bool true, .bool true, .bool true, .bool true] (by kernel_rfl) (by kernel_rfl) (by kernel_rfl) (by kernel_rfl) (fun _ _ _ h => h) h14.drew ?_ ?_
    · refine AllSure.cons (OpSure.take (v := .bool true) (by kernel_rfl) (by kernel_rfl) (fun _ _ => (by kernel_rfl))) ?_
      refine AllSure.cons (OpSure.take (v := .bool true) (by kernel_rfl) (by kernel_rfl) (fun _ _ => (by kernel_rfl))) ?_
      refine AllSure.cons (OpSure.take (v := .bool true) (by kernel_rfl) (by kernel_rfl) (fun _ _ => (run_eqb true true (by kernel_rfl) (by kernel_rfl)))) ?_
      refine AllSure.cons (OpSure.take (v := .bool true) (by kernel_rfl) (by kernel_rfl) (fun _ _ => (by kernel_rfl))) ?_
      refine AllSure.cons (OpSure.take (v := .agg (pr a b)) (by kernel_rfl) (by kernel_rfl) (fun _ h => run_load_blk (by kernel_rfl) (h.get 1 rfl) Tryd.underlying27 rfl (info27p a b))) ?_
      refine AllSure.cons (sure_call (v := .string (encP p)) (by kernel_rfl) (by kernel_rfl) enter14 HA.keep #[.agg (pr a b)] (by kernel_rfl) (fun w' h' => bytes_ex hp w' (VV.below h'.old VV.big))) ?_
      refine AllSure.cons (OpSure.take (v := .agg (rq q)) (by kernel_rfl) (by kernel_rfl) (fun w' h' => run_load34 q (by kernel_rfl) (show Blk w' q10 34 (rq q) from h'.get 0 rfl))) ?_
      refine AllSure.cons (sure_call (v := .string (encP p)) (by kernel_rfl) (by kernel_rfl) enter15 HA.keep #[.agg (rq q)] (by kernel_rfl) (fun w' h' => rbytes_ex hq w')) ?_
      refine AllSure.cons (OpSure.take (v := .bool true) (by kernel_rfl) (by kernel_rfl) (fun _ _ => (run_eqs (s := (encP p)) (t := (encP p)) (by kernel_rfl) (by kernel_rfl) true (decide_eq_true rfl)))) ?_
      refine AllSure.cons (OpSure.take (v := .bool true) (by kernel_rfl) (by kernel_rfl) (fun _ _ => (by kernel_rfl))) ?_
      refine AllSure.cons (OpSure.take (v := .bool true) (by kernel_rfl) (by kernel_rfl) (fun _ _ => (by kernel_rfl))) ?_
      refine AllSure.cons (sure_call (v := .bool true) (by kernel_rfl) (by kernel_rfl) enter16 HA.keep #[] (by kernel_rfl) (fun w' h' => works_any w' (VV.below h'.old VV.big))) ?_
      refine AllSure.cons (OpSure.take (v := .bool true) (by kernel_rfl) (by kernel_rfl) (fun _ _ => (by kernel_rfl))) ?_
      refine AllSure.cons (OpSure.take (v := .bool true) (by kernel_rfl) (by kernel_rfl) (fun _ _ => (by kernel_rfl))) ?_
      exact AllSure.nil
    intro w15 h16
    refine then_at (F := ⟨(.string s :: un :: .bool true :: pt q3 :: .bool true :: pt q10 :: .bool true :: .tuple #[.agg (pr a b), .bool true] :: .string s :: .tuple #[.agg (pr a b), .bool true] :: .agg (pr a b) :: .bool true :: .tuple #[.agg (rq q), .bool true] :: .string s :: .tuple #[.agg (rq q), .bool true] :: .agg (rq q) :: .bool true :: .bool true :: .bool true :: .bool true :: .bool true :: .agg (pr a b) :: .string (encP p) :: .agg (rq q) :: .string (encP p) :: .bool true :: .bool true :: .bool true :: .bool true :: .bool true :: List.replicate 0 un).toArray, []⟩) (by kernel_rfl) ?_
    refine wp_ret ?_
    repeat first | refine then_ret ?_ | refine block_ret ?_
    exact bodyPost_ret (v := .bool true) (by kernel_rfl) rfl ⟨rfl, h16.old⟩
  · -- region 1
    refine wl_region ?_
    refine wl_val (.string s) (by kernel_rfl) (by kernel_rfl) ?_
    refine wl_call (v := .tuple #[.agg (pr 0 0), .bool false]) H0 (by kernel_rfl) enter12 #[.string s] (by kernel_rfl) (hc w (VV.below H0.old VV.big)) ?_
    intro w17 h18
    refine wl_val (.tuple #[.agg (pr 0 0), .bool false]) (by kernel_rfl) (by kernel_rfl) ?_
    refine wl_val (.agg (pr 0 0)) (by kernel_rfl) (by kernel_rfl) ?_
    refine wl_val (.bool false) (by kernel_rfl) (by kernel_rfl) ?_
    refine wl_make h18 27 (by kernel_rfl) run_alloc27 ?_
    intro q19 w20 h21
    refine wl_fill (c' := pr 0 0) h21 0 rfl (by kernel_rfl) (by kernel_rfl) (by kernel_rfl) (pr_sz 0 0 0 0) (info27p 0 0) (one_pr 0 0) ?_
    intro w22 (h23 : HA w [(q19, 27, pr 0 0)] w22)
    refine wl_val (.bool false) (by kernel_rfl) (by kernel_rfl) ?_
    refine wl_nil ?_
    refine then_at (F := ⟨(.string s :: un :: .bool false :: pt q19 :: .bool false :: un :: un :: .tuple #[.agg (pr 0 0), .bool false] :: .string s :: .tuple #[.agg (pr 0 0), .bool false] :: .agg (pr 0 0) :: .bool false :: List.replicate 18 un).toArray, []⟩) (by kernel_rfl) ?_
    refine wp_seq ?_
    -- region 2
    refine wl_region ?_
    refine wl_val (.string s) (by kernel_rfl) (by kernel_rfl) ?_
    refine wl_call (v := .tuple #[.agg (rq (mdQ 0 1)), .bool false]) h23 (by kernel_rfl) enter13 #[.string s] (by kernel_rfl) (hd w22) ?_
    intro w24 h25
    refine wl_val (.tuple #[.agg (rq (mdQ 0 1)), .bool false]) (by kernel_rfl) (by kernel_rfl) ?_
    refine wl_val (.agg (rq (mdQ 0 1))) (by kernel_rfl) (by kernel_rfl) ?_
    refine wl_val (.bool false) (by kernel_rfl) (by kernel_rfl) ?_
    refine wl_make h25 34 (by kernel_rfl) run_alloc34 ?_
    intro q26 w27 h28
    refine wl_fill (c' := rq (mdQ 0 1)) h28 0 rfl (by kernel_rfl) (by kernel_rfl) (by kernel_rfl) (rq_sz (mdQ 0 1) (Q4.mk 0 0 0 0)) (info34q (mdQ 0 1)) (one_rq (mdQ 0 1)) ?_
    intro w29 (h30 : HA w [(q26, 34, rq (mdQ 0 1)), (q19, 27, pr 0 0)] w29)
    refine wl_val (.bool false) (by kernel_rfl) (by kernel_rfl) ?_
    refine wl_nil ?_
    refine then_at (F := ⟨(.string s :: un :: .bool false :: pt q19 :: .bool false :: pt q26 :: .bool false :: .tuple #[.agg (pr 0 0), .bool false] :: .string s :: .tuple #[.agg (pr 0 0), .bool false] :: .agg (pr 0 0) :: .bool false :: .tuple #[.agg (rq (mdQ 0 1)), .bool false] :: .string s :: .tuple #[.agg (rq (mdQ 0 1)), .bool false] :: .agg (rq (mdQ 0 1)) :: .bool false :: List.replicate 13 un).toArray, []⟩) (by kernel_rfl) ?_
    refine wp_seq ?_
    -- region 3
    refine wp_region_sure ⟨(.string s :: un :: .bool true :: pt q19 :: .bool false :: pt q26 :: .bool false :: .tuple #[.agg (pr 0 0), .bool false] :: .string s :: .tuple #[.agg (pr 0 0), .bool false] :: .agg (pr 0 0) :: .bool false :: .tuple #[.agg (rq (mdQ 0 1)), .bool false] :: .string s :: .tuple #[.agg (rq (mdQ 0 1)), .bool false] :: .agg (rq (mdQ 0 1)) :: .bool false :: .bool false :: .bool false :: .bool true :: .bool true :: .agg (pr 0 0) :: .string (encP nP) :: .agg (rq (mdQ 0 1)) :: .string (encP nP) :: .bool true :: .bool true :: .bool true :: .bool true :: .bool true :: List.replicate 0 un).toArray, []⟩ (HA w [(q26, 34, rq (mdQ 0 1)), (q19, 27, pr 0 0)]) [.bool false, .bool false, .bool true, .bool true, .agg (pr 0 0), .string (encP nP), .agg (rq (mdQ 0 1)), .string (encP nP), .bool true, .bool true, .bool true, .bool true, .bool true, .bool true] (by kernel_rfl) (by kernel_rfl) (by kernel_rfl) (by kernel_rfl) (fun _ _ _ h => h) h30.drew ?_ ?_
    · refine AllSure.cons (OpSure.take (v := .bool false) (by kernel_rfl) (by kernel_rfl) (fun _ _ => (by kernel_rfl))) ?_
      refine AllSure.cons (OpSure.take (v := .bool false) (by kernel_rfl) (by kernel_rfl) (fun _ _ => (by kernel_rfl))) ?_
      refine AllSure.cons (OpSure.take (v := .bool true) (by kernel_rfl) (by kernel_rfl) (fun _ _ => (run_eqb false false (by kernel_rfl) (by kernel_rfl)))) ?_
      refine AllSure.cons (OpSure.take (v := .bool true) (by kernel_rfl) (by kernel_rfl) (fun _ _ => (by kernel_rfl))) ?_
      refine AllSure.cons (OpSure.take (v := .agg (pr 0 0)) (by kernel_rfl) (by kernel_rfl) (fun _ h => run_load_blk (by kernel_rfl) (h.get 1 rfl) Tryd.underlying27 rfl (info27p 0 0))) ?_
      refine AllSure.cons (sure_call (v := .string (encP nP)) (by kernel_rfl) (by kernel_rfl) enter14 HA.keep #[.agg (pr 0 0)] (by kernel_rfl) (fun w' h' => bytes_ex Pn.none w' (VV.below h'.old VV.big))) ?_
      refine AllSure.cons (OpSure.take (v := .agg (rq (mdQ 0 1))) (by kernel_rfl) (by kernel_rfl) (fun w' h' => run_load34 (mdQ 0 1) (by kernel_rfl) (show Blk w' q26 34 (rq (mdQ 0 1)) from h'.get 0 rfl))) ?_
      refine AllSure.cons (sure_call (v := .string (encP nP)) (by kernel_rfl) (by kernel_rfl) enter15 HA.keep #[.agg (rq (mdQ 0 1))] (by kernel_rfl) (fun w' h' => rbytes_ex Rp.none w')) ?_
      refine AllSure.cons (OpSure.take (v := .bool true) (by kernel_rfl) (by kernel_rfl) (fun _ _ => (run_eqs (s := (encP nP)) (t := (encP nP)) (by kernel_rfl) (by kernel_rfl) true (decide_eq_true rfl)))) ?_
      refine AllSure.cons (OpSure.take (v := .bool true) (by kernel_rfl) (by kernel_rfl) (fun _ _ => (by kernel_rfl))) ?_
      refine AllSure.cons (OpSure.take (v := .bool true) (by kernel_rfl) (by kernel_rfl) (fun _ _ => (by kernel_rfl))) ?_
      refine AllSure.cons (sure_call (v := .bool true) (by kernel_rfl) (by kernel_rfl) enter16 HA.keep #[] (by kernel_rfl) (fun w' h' => works_any w' (VV.below h'.old VV.big))) ?_
      refine AllSure.cons (OpSure.take (v := .bool true) (by kernel_rfl) (by kernel_rfl) (fun _ _ => (by kernel_rfl))) ?_
      refine AllSure.cons (OpSure.take (v := .bool true) (by kernel_rfl) (by kernel_rfl) (fun _ _ => (by kernel_rfl))) ?_
      exact AllSure.nil
    intro w31 h32
    refine then_at (F := ⟨(.string s :: un :: .bool true :: pt q19 :: .bool false :: pt q26 :: .bool false :: .tuple #[.agg (pr 0 0), .bool false] :: .string s :: .tuple #[.agg (pr 0 0), .bool false] :: .agg (pr 0 0) :: .bool false :: .tuple #[.agg (rq (mdQ 0 1)), .bool false] :: .string s :: .tuple #[.agg (rq (mdQ 0 1)), .bool false] :: .agg (rq (mdQ 0 1)) :: .bool false :: .bool false :: .bool false :: .bool true :: .bool true :: .agg (pr 0 0) :: .string (encP nP) :: .agg (rq (mdQ 0 1)) :: .string (encP nP) :: .bool true :: .bool true :: .bool true :: .bool true :: .bool true :: List.replicate 0 un).toArray, []⟩) (by kernel_rfl) ?_
    refine wp_ret ?_
    repeat first | refine then_ret ?_ | refine block_ret ?_
    exact bodyPost_ret (v := .bool true) (by kernel_rfl) rfl ⟨rfl, h32.old⟩
end Go.Proofs.YtpaendmdcdeemaaDoor
