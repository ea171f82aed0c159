/-
  the law of sums and multiples.
-/
import Derived.Test.YtpaendmdcdeemaaDoorCvW
import Derived.Test.YtpaendmdcdeemaaDoorCuX3
namespace Go.Proofs.YtpaendmdcdeemaaDoor
open Go.RowKit Num


set_option linter.unusedVariables false in
set_option maxRecDepth 100000 in
set_option maxHeartbeats 2000000 in
theorem CurveSums_any (s : ByteArray) (l1 l2 : List UInt8) (hl1 : l1.length = 32) (hl2 : l2.length = 32) (w : World) (VV : Vars w) :
    Calls Tryd.prog 4 #[.agg (cs l1).toArray, .agg (cs l2).toArray, .string s] w fun e w' => e = .returned (.bool true) ∧ Below w.heap.size w w' := by
  have H0 := HA.start w
  go_enter Tryd.func4, Tryd.ntmps4
  refine wp_seq ?_
  refine wl_region ?_
  refine wl_make H0 41 (by kernel_rfl) (run_box41 (c := (cs l1).toArray) (by kernel_rfl)) ?_
  intro q1 w2 h3
  refine wl_make h3 41 (by kernel_rfl) (run_box41 (c := (cs l2).toArray) (by kernel_rfl)) ?_
  intro q4 w5 h6
  refine wl_val (.bool false) (by kernel_rfl) (by kernel_rfl) ?_
  refine wl_nil ?_
  refine then_at (F := ⟨(.agg (cs l1).toArray :: .agg (cs l2).toArray :: .string s :: pt q1 :: pt q4 :: un :: .bool false :: List.replicate 55 un).toArray, []⟩) (by kernel_rfl) ?_
  refine wp_seq ?_
  refine wl_region ?_
  refine wl_load h6 1 rfl (by kernel_rfl) (by kernel_rfl) Tryd.underlying41 rfl (info41l l1 hl1) ?_
  obtain ⟨x1, y1, P1, q1q, n1, k1, c1⟩ := both_ex l1 hl1
  refine wl_call (v := .tuple #[.agg (pr x1 y1), .agg (rq q1q)]) h6 (by kernel_rfl) enter17 #[.agg (cs l1).toArray] (by kernel_rfl) (c1 w5 (VV.below h6.old VV.big)) ?_
  intro w7 h8
  refine wl_val (.tuple #[.agg (pr x1 y1), .agg (rq q1q)]) (by kernel_rfl) (by kernel_rfl) ?_
  refine wl_val (.agg (pr x1 y1)) (by kernel_rfl) (by kernel_rfl) ?_
  refine wl_val (.agg (rq q1q)) (by kernel_rfl) (by kernel_rfl) ?_
  refine wl_make h8 27 (by kernel_rfl) run_alloc27 ?_
  intro q9 w10 h11
  refine wl_make h11 34 (by kernel_rfl) run_alloc34 ?_
  intro q12 w13 h14
  refine wl_fill (c' := pr x1 y1) h14 1 rfl (by kernel_rfl) (by kernel_rfl) (by kernel_rfl) (pr_sz x1 y1 0 0) (info27p x1 y1) (one_pr x1 y1) ?_
  intro w15 (h16 : HA w [(q12, 34, rq (Q4.mk 0 0 0 0)), (q9, 27, pr x1 y1), (q4, 41, (cs l2).toArray), (q1, 41, (cs l1).toArray)] w15)
  refine wl_fill (c' := rq q1q) h16 0 rfl (by kernel_rfl) (by kernel_rfl) (by kernel_rfl) (rq_sz q1q (Q4.mk 0 0 0 0)) (info34q q1q) (one_rq q1q) ?_
  intro w17 (h18 : HA w [(q12, 34, rq q1q), (q9, 27, pr x1 y1), (q4, 41, (cs l2).toArray), (q1, 41, (cs l1).toArray)] w17)
  refine wl_nil ?_
  refine then_at (F := ⟨(.agg (cs l1).toArray :: .agg (cs l2).toArray :: .string s :: pt q1 :: pt q4 :: un :: .bool false :: pt q9 :: pt q12 :: un :: un :: .tuple #[.agg (pr x1 y1), .agg (rq q1q)] :: .agg (cs l1).toArray :: .tuple #[.agg (pr x1 y1), .agg (rq q1q)] :: .agg (pr x1 y1) :: .agg (rq q1q) :: List.replicate 46 un).toArray, []⟩) (by kernel_rfl) ?_
  refine wp_seq ?_
  refine wl_region ?_
  refine wl_load h18 2 rfl (by kernel_rfl) (by kernel_rfl) Tryd.underlying41 rfl (info41l l2 hl2) ?_
  obtain ⟨x2, y2, P2, q2q, n2, k2, c2⟩ := both_ex l2 hl2
  refine wl_call (v := .tuple #[.agg (pr x2 y2), .agg (rq q2q)]) h18 (by kernel_rfl) enter17 #[.agg (cs l2).toArray] (by kernel_rfl) (c2 w17 (VV.below h18.old VV.big)) ?_
  intro w19 h20
  refine wl_val (.tuple #[.agg (pr x2 y2), .agg (rq q2q)]) (by kernel_rfl) (by kernel_rfl) ?_
  refine wl_val (.agg (pr x2 y2)) (by kernel_rfl) (by kernel_rfl) ?_
  refine wl_val (.agg (rq q2q)) (by kernel_rfl) (by kernel_rfl) ?_
  refine wl_make h20 27 (by kernel_rfl) run_alloc27 ?_
  intro q21 w22 h23
  refine wl_make h23 34 (by kernel_rfl) run_alloc34 ?_
  intro q24 w25 h26
  refine wl_fill (c' := pr x2 y2) h26 1 rfl (by kernel_rfl) (by kernel_rfl) (by kernel_rfl) (pr_sz x2 y2 0 0) (info27p x2 y2) (one_pr x2 y2) ?_
  intro w27 (h28 : HA w [(q24, 34, rq (Q4.mk 0 0 0 0)), (q21, 27, pr x2 y2), (q12, 34, rq q1q), (q9, 27, pr x1 y1), (q4, 41, (cs l2).toArray), (q1, 41, (cs l1).toArray)] w27)
  refine wl_fill (c' := rq q2q) h28 0 rfl (by kernel_rfl) (by kernel_rfl) (by kernel_rfl) (rq_sz q2q (Q4.mk 0 0 0 0)) (info34q q2q) (one_rq q2q) ?_
  intro w29 (h30 : HA w [(q24, 34, rq q2q), (q21, 27, pr x2 y2), (q12, 34, rq q1q), (q9, 27, pr x1 y1), (q4, 41, (cs l2).toArray), (q1, 41, (cs l1).toArray)] w29)
  refine wl_nil ?_
  refine then_at (F := ⟨(.agg (cs l1).toArray :: .agg (cs l2).toArray :: .string s :: pt q1 :: pt q4 :: un :: .bool false :: pt q9 :: pt q12 :: pt q21 :: pt q24 :: .tuple #[.agg (pr x1 y1), .agg (rq q1q)] :: .agg (cs l1).toArray :: .tuple #[.agg (pr x1 y1), .agg (rq q1q)] :: .agg (pr x1 y1) :: .agg (rq q1q) :: .tuple #[.agg (pr x2 y2), .agg (rq q2q)] :: .agg (cs l2).toArray :: .tuple #[.agg (pr x2 y2), .agg (rq q2q)] :: .agg (pr x2 y2) :: .agg (rq q2q) :: List.replicate 41 un).toArray, []⟩) (by kernel_rfl) ?_
  refine wp_seq ?_
  by_cases hsame : P1 = P2
  · by_cases hs : s.size = 32
    · -- region 3
      obtain ⟨x3, y3, n3, c3⟩ := add_ex n1 n2
      obtain ⟨r4, k4, c4⟩ := radd_ex k1 k2
      obtain ⟨x5, y5, n5, c5⟩ := neg_ex n1
      obtain ⟨r6, k6, c6⟩ := rneg_ex k1
      obtain ⟨x7, y7, n7, c7⟩ := mul_ex n1 s hs
      obtain ⟨r8, k8, c8⟩ := rmul_ex k1 s hs
      refine wp_region_sure ⟨(.agg (cs l1).toArray :: .agg (cs l2).toArray :: .string s :: pt q1 :: pt q4 :: un :: .bool true :: pt q9 :: pt q12 :: pt q21 :: pt q24 :: .tuple #[.agg (pr x1 y1), .agg (rq q1q)] :: .agg (cs l1).toArray :: .tuple #[.agg (pr x1 y1), .agg (rq q1q)] :: .agg (pr x1 y1) :: .agg (rq q1q) :: .tuple #[.agg (pr x2 y2), .agg (rq q2q)] :: .agg (cs l2).toArray :: .tuple #[.agg (pr x2 y2), .agg (rq q2q)] :: .agg (pr x2 y2) :: .agg (rq q2q) :: .agg (pr x1 y1) :: .agg (pr x2 y2) :: .agg (pr x3 y3) :: .string (encP (aP P1 P2)) :: .agg (rq q1q) :: .agg (rq q2q) :: .agg (rq r4) :: .string (encP (aP P1 P2)) :: .bool true :: .bool true :: .agg (pr x1 y1) :: .agg (pr x5 y5) :: .string (encP (gP P1)) :: .agg (rq q1q) :: .agg (rq r6) :: .string (encP (gP P1)) :: .bool true :: .bool true :: .bool true :: .agg (pr x1 y1) :: .agg (pr x2 y2) :: .bool true :: .agg (rq q1q) :: .agg (rq q2q) :: .bool true :: .bool true :: .bool true :: .bool true :: .agg (pr x1 y1) :: .string s :: .agg (pr x7 y7) :: .string (encP (mP P1 (numS s))) :: .agg (rq q1q) :: .string s :: .agg (rq r8) :: .string (encP (mP P1 (numS s))) :: .bool true :: .bool true :: .bool true :: .bool true :: .bool true :: List.replicate 0 un).toArray, []⟩ (HA w [(q24, 34, rq q2q), (q21, 27, pr x2 y2), (q12, 34, rq q1q), (q9, 27, pr x1 y1), (q4, 41, (cs l2).toArray), (q1, 41, (cs l1).toArray)]) [.agg (pr x1 y1), .agg (pr x2 y2), .agg (pr x3 y3), .string (encP (aP P1 P2)), .agg (rq q1q), .agg (rq q2q), .agg (rq r4), .string (encP (aP P1 P2)), .bool true, .bool true, .agg (pr x1 y1), .agg (pr x5 y5), .string (encP (gP P1)), .agg (rq q1q), .agg (rq r6), .string (encP (gP P1)), .bool true, .bool true, .bool true, .agg (pr x1 y1), .agg (pr x2 y2), .bool true, .agg (rq q1q), .agg (rq q2q), .bool true, .bool true, .bool true, .bool true, .agg (pr x1 y1), .string s, .agg (pr x7 y7), .string (encP (mP P1 (numS s))), .agg (rq q1q), .string s, .agg (rq r8), .string (encP (mP P1 (numS s))), .bool true, .bool true, .bool true, .bool true, .bool true, .bool true] (by kernel_rfl) (by kernel_rfl) (by kernel_rfl) (by kernel_rfl) (fun _ _ _ h => h) h30.drew ?_ ?_
      · refine AllSure.cons (OpSure.take (v := .agg (pr x1 y1)) (by kernel_rfl) (by kernel_rfl) (fun _ h => run_load_blk (by kernel_rfl) (h.get 3 rfl) Tryd.underlying27 rfl (info27p x1 y1))) ?_
        refine AllSure.cons (OpSure.take (v := .agg (pr x2 y2)) (by kernel_rfl) (by kernel_rfl) (fun _ h => run_load_blk (by kernel_rfl) (h.get 1 rfl) Tryd.underlying27 rfl (info27p x2 y2))) ?_
        refine AllSure.cons (sure_call (v := .agg (pr x3 y3)) (by kernel_rfl) (by kernel_rfl) enter18 HA.keep #[.agg (pr x1 y1), .agg (pr x2 y2)] (by kernel_rfl) (fun w' h' => c3 w' (VV.below h'.old VV.big))) ?_
        refine AllSure.cons (sure_call (v := .string (encP (aP P1 P2))) (by kernel_rfl) (by kernel_rfl) enter14 HA.keep #[.agg (pr x3 y3)] (by kernel_rfl) (fun w' h' => bytes_ex n3 w' (VV.below h'.old VV.big))) ?_
        refine AllSure.cons (OpSure.take (v := .agg (rq q1q)) (by kernel_rfl) (by kernel_rfl) (fun w' h' => run_load34 q1q (by kernel_rfl) (show Blk w' q12 34 (rq q1q) from h'.get 2 rfl))) ?_
        refine AllSure.cons (OpSure.take (v := .agg (rq q2q)) (by kernel_rfl) (by kernel_rfl) (fun w' h' => run_load34 q2q (by kernel_rfl) (show Blk w' q24 34 (rq q2q) from h'.get 0 rfl))) ?_
        refine AllSure.cons (sure_call (v := .agg (rq r4)) (by kernel_rfl) (by kernel_rfl) enter19 HA.keep #[.agg (rq q1q), .agg (rq q2q)] (by kernel_rfl) (fun w' h' => c4 w')) ?_
        refine AllSure.cons (sure_call (v := .string (encP (aP P1 P2))) (by kernel_rfl) (by kernel_rfl) enter15 HA.keep #[.agg (rq r4)] (by kernel_rfl) (fun w' h' => rbytes_ex k4 w')) ?_
        refine AllSure.cons (OpSure.take (v := .bool true) (by kernel_rfl) (by kernel_rfl) (fun _ _ => (run_eqs (s := (encP (aP P1 P2))) (t := (encP (aP P1 P2))) (by kernel_rfl) (by kernel_rfl) true (decide_eq_true rfl)))) ?_
        refine AllSure.cons (OpSure.take (v := .bool true) (by kernel_rfl) (by kernel_rfl) (fun _ _ => (by kernel_rfl))) ?_
        refine AllSure.cons (OpSure.take (v := .agg (pr x1 y1)) (by kernel_rfl) (by kernel_rfl) (fun _ h => run_load_blk (by kernel_rfl) (h.get 3 rfl) Tryd.underlying27 rfl (info27p x1 y1))) ?_
        refine AllSure.cons (sure_call (v := .agg (pr x5 y5)) (by kernel_rfl) (by kernel_rfl) enter20 HA.keep #[.agg (pr x1 y1)] (by kernel_rfl) (fun w' h' => c5 w' (VV.below h'.old VV.big))) ?_
        refine AllSure.cons (sure_call (v := .string (encP (gP P1))) (by kernel_rfl) (by kernel_rfl) enter14 HA.keep #[.agg (pr x5 y5)] (by kernel_rfl) (fun w' h' => bytes_ex n5 w' (VV.below h'.old VV.big))) ?_
        refine AllSure.cons (OpSure.take (v := .agg (rq q1q)) (by kernel_rfl) (by kernel_rfl) (fun w' h' => run_load34 q1q (by kernel_rfl) (show Blk w' q12 34 (rq q1q) from h'.get 2 rfl))) ?_
        refine AllSure.cons (sure_call (v := .agg (rq r6)) (by kernel_rfl) (by kernel_rfl) enter21 HA.keep #[.agg (rq q1q)] (by kernel_rfl) (fun w' h' => c6 w')) ?_
        refine AllSure.cons (sure_call (v := .string (encP (gP P1))) (by kernel_rfl) (by kernel_rfl) enter15 HA.keep #[.agg (rq r6)] (by kernel_rfl) (fun w' h' => rbytes_ex k6 w')) ?_
        refine AllSure.cons (OpSure.take (v := .bool true) (by kernel_rfl) (by kernel_rfl) (fun _ _ => (run_eqs (s := (encP (gP P1))) (t := (encP (gP P1))) (by kernel_rfl) (by kernel_rfl) true (decide_eq_true rfl)))) ?_
        refine AllSure.cons (OpSure.take (v := .bool true) (by kernel_rfl) (by kernel_rfl) (fun _ _ => (by kernel_rfl))) ?_
        refine AllSure.cons (OpSure.take (v := .bool true) (by kernel_rfl) (by kernel_rfl) (fun _ _ => (by kernel_rfl))) ?_
        refine AllSure.cons (OpSure.take (v := .agg (pr x1 y1)) (by kernel_rfl) (by kernel_rfl) (fun _ h => run_load_blk (by kernel_rfl) (h.get 3 rfl) Tryd.underlying27 rfl (info27p x1 y1))) ?_
        refine AllSure.cons (OpSure.take (v := .agg (pr x2 y2)) (by kernel_rfl) (by kernel_rfl) (fun _ h => run_load_blk (by kernel_rfl) (h.get 1 rfl) Tryd.underlying27 rfl (info27p x2 y2))) ?_
        refine AllSure.cons (sure_call (v := .bool true) (by kernel_rfl) (by kernel_rfl) enter22 HA.keep #[.agg (pr x1 y1), .agg (pr x2 y2)] (by kernel_rfl) (fun w' h' => same_yes n1 n2 hsame w')) ?_
        refine AllSure.cons (OpSure.take (v := .agg (rq q1q)) (by kernel_rfl) (by kernel_rfl) (fun w' h' => run_load34 q1q (by kernel_rfl) (show Blk w' q12 34 (rq q1q) from h'.get 2 rfl))) ?_
        refine AllSure.cons (OpSure.take (v := .agg (rq q2q)) (by kernel_rfl) (by kernel_rfl) (fun w' h' => run_load34 q2q (by kernel_rfl) (show Blk w' q24 34 (rq q2q) from h'.get 0 rfl))) ?_
        refine AllSure.cons (sure_call (v := .bool true) (by kernel_rfl) (by kernel_rfl) enter23 HA.keep #[.agg (rq q1q), .agg (rq q2q)] (by kernel_rfl) (fun w' h' => rsame_yes k1 k2 hsame w')) ?_
        refine AllSure.cons (OpSure.take (v := .bool true) (by kernel_rfl) (by kernel_rfl) (fun _ _ => (run_eqb true true (by kernel_rfl) (by kernel_rfl)))) ?_
        refine AllSure.cons (OpSure.take (v := .bool true) (by kernel_rfl) (by kernel_rfl) (fun _ _ => (by kernel_rfl))) ?_
        refine AllSure.cons (OpSure.take (v := .bool true) (by kernel_rfl) (by kernel_rfl) (fun _ _ => (by kernel_rfl))) ?_
        refine AllSure.cons (OpSure.take (v := .agg (pr x1 y1)) (by kernel_rfl) (by kernel_rfl) (fun _ h => run_load_blk (by kernel_rfl) (h.get 3 rfl) Tryd.underlying27 rfl (info27p x1 y1))) ?_
        refine AllSure.cons (OpSure.take (v := .string s) (by kernel_rfl) (by kernel_rfl) (fun _ _ => (by kernel_rfl))) ?_
        refine AllSure.cons (sure_call (v := .agg (pr x7 y7)) (by kernel_rfl) (by kernel_rfl) enter24 HA.keep #[.agg (pr x1 y1), .string s] (by kernel_rfl) (fun w' h' => c7 w' (VV.below h'.old VV.big))) ?_
        refine AllSure.cons (sure_call (v := .string (encP (mP P1 (numS s)))) (by kernel_rfl) (by kernel_rfl) enter14 HA.keep #[.agg (pr x7 y7)] (by kernel_rfl) (fun w' h' => bytes_ex n7 w' (VV.below h'.old VV.big))) ?_
        refine AllSure.cons (OpSure.take (v := .agg (rq q1q)) (by kernel_rfl) (by kernel_rfl) (fun w' h' => run_load34 q1q (by kernel_rfl) (show Blk w' q12 34 (rq q1q) from h'.get 2 rfl))) ?_
        refine AllSure.cons (OpSure.take (v := .string s) (by kernel_rfl) (by kernel_rfl) (fun _ _ => (by kernel_rfl))) ?_
        refine AllSure.cons (sure_call (v := .agg (rq r8)) (by kernel_rfl) (by kernel_rfl) enter25 HA.keep #[.agg (rq q1q), .string s] (by kernel_rfl) (fun w' h' => c8 w')) ?_
        refine AllSure.cons (sure_call (v := .string (encP (mP P1 (numS s)))) (by kernel_rfl) (by kernel_rfl) enter15 HA.keep #[.agg (rq r8)] (by kernel_rfl) (fun w' h' => rbytes_ex k8 w')) ?_
        refine AllSure.cons (OpSure.take (v := .bool true) (by kernel_rfl) (by kernel_rfl) (fun _ _ => (run_eqs (s := (encP (mP P1 (numS s)))) (t := (encP (mP P1 (numS s)))) (by kernel_rfl) (by kernel_rfl) true (decide_eq_true rfl)))) ?_
        refine AllSure.cons (OpSure.take (v := .bool true) (by kernel_rfl) (by kernel_rfl) (fun _ _ => (by kernel_rfl))) ?_
        refine AllSure.cons (OpSure.take (v := .bool true) (by kernel_rfl) (by kernel_rfl) (fun _ _ => (by kernel_rfl))) ?_
        refine AllSure.cons (sure_call (v := .bool true) (by kernel_rfl) (by kernel_rfl) enter16 HA.keep #[] (by kernel_rfl) (fun w' h' => works_any w' (VV.below h'.old VV.big))) ?_
        refine AllSure.cons (OpSure.take (v := .bool true) (by kernel_rfl) (by kernel_rfl) (fun _ _ => (by kernel_rfl))) ?_
        refine AllSure.cons (OpSure.take (v := .bool true) (by kernel_rfl) (by kernel_rfl) (fun _ _ => (by kernel_rfl))) ?_
        exact AllSure.nil
      intro w31 h32
      refine then_at (F := ⟨(.agg (cs l1).toArray :: .agg (cs l2).toArray :: .string s :: pt q1 :: pt q4 :: un :: .bool true :: pt q9 :: pt q12 :: pt q21 :: pt q24 :: .tuple #[.agg (pr x1 y1), .agg (rq q1q)] :: .agg (cs l1).toArray :: .tuple #[.agg (pr x1 y1), .agg (rq q1q)] :: .agg (pr x1 y1) :: .agg (rq q1q) :: .tuple #[.agg (pr x2 y2), .agg (rq q2q)] :: .agg (cs l2).toArray :: .tuple #[.agg (pr x2 y2), .agg (rq q2q)] :: .agg (pr x2 y2) :: .agg (rq q2q) :: .agg (pr x1 y1) :: .agg (pr x2 y2) :: .agg (pr x3 y3) :: .string (encP (aP P1 P2)) :: .agg (rq q1q) :: .agg (rq q2q) :: .agg (rq r4) :: .string (encP (aP P1 P2)) :: .bool true :: .bool true :: .agg (pr x1 y1) :: .agg (pr x5 y5) :: .string (encP (gP P1)) :: .agg (rq q1q) :: .agg (rq r6) :: .string (encP (gP P1)) :: .bool true :: .bool true :: .bool true :: .agg (pr x1 y1) :: .agg (pr x2 y2) :: .bool true :: .agg (rq q1q) :: .agg (rq q2q) :: .bool true :: .bool true :: .bool true :: .bool true :: .agg (pr x1 y1) :: .string s :: .agg (pr x7 y7) :: .string (encP (mP P1 (numS s))) :: .agg (rq q1q) :: .string s :: .agg (rq r8) :: .string (encP (mP P1 (numS s))) :: .bool true :: .bool true :: .bool true :: .bool true :: .bool true :: List.replicate 0 un).toArray, []⟩) (by kernel_rfl) ?_
      refine wp_ret ?_
      repeat first | refine then_ret ?_ | refine block_ret ?_
      exact bodyPost_ret (v := .bool true) (by kernel_rfl) rfl ⟨rfl, h32.old⟩
    · -- region 3
      obtain ⟨x3, y3, n3, c3⟩ := add_ex n1 n2
      obtain ⟨r4, k4, c4⟩ := radd_ex k1 k2
      obtain ⟨x5, y5, n5, c5⟩ := neg_ex n1
      obtain ⟨r6, k6, c6⟩ := rneg_ex k1
      refine wp_region_sure ⟨(.agg (cs l1).toArray :: .agg (cs l2).toArray :: .string s :: pt q1 :: pt q4 :: un :: .bool true :: pt q9 :: pt q12 :: pt q21 :: pt q24 :: .tuple #[.agg (pr x1 y1), .agg (rq q1q)] :: .agg (cs l1).toArray :: .tuple #[.agg (pr x1 y1), .agg (rq q1q)] :: .agg (pr x1 y1) :: .agg (rq q1q) :: .tuple #[.agg (pr x2 y2), .agg (rq q2q)] :: .agg (cs l2).toArray :: .tuple #[.agg (pr x2 y2), .agg (rq q2q)] :: .agg (pr x2 y2) :: .agg (rq q2q) :: .agg (pr x1 y1) :: .agg (pr x2 y2) :: .agg (pr x3 y3) :: .string (encP (aP P1 P2)) :: .agg (rq q1q) :: .agg (rq q2q) :: .agg (rq r4) :: .string (encP (aP P1 P2)) :: .bool true :: .bool true :: .agg (pr x1 y1) :: .agg (pr x5 y5) :: .string (encP (gP P1)) :: .agg (rq q1q) :: .agg (rq r6) :: .string (encP (gP P1)) :: .bool true :: .bool true :: .bool true :: .agg (pr x1 y1) :: .agg (pr x2 y2) :: .bool true :: .agg (rq q1q) :: .agg (rq q2q) :: .bool true :: .bool true :: .bool true :: .bool true :: .agg (pr x1 y1) :: .string s :: .agg (pr 0 0) :: .string (encP nP) :: .agg (rq q1q) :: .string s :: .agg (rq (mdQ 0 1)) :: .string (encP nP) :: .bool true :: .bool true :: .bool true :: .bool true :: .bool true :: List.replicate 0 un).toArray, []⟩ (HA w [(q24, 34, rq q2q), (q21, 27, pr x2 y2), (q12, 34, rq q1q), (q9, 27, pr x1 y1), (q4, 41, (cs l2).toArray), (q1, 41, (cs l1).toArray)]) [.agg (pr x1 y1), .agg (pr x2 y2), .agg (pr x3 y3), .string (encP (aP P1 P2)), .agg (rq q1q), .agg (rq q2q), .agg (rq r4), .string (encP (aP P1 P2)), .bool true, .bool true, .agg (pr x1 y1), .agg (pr x5 y5), .string (encP (gP P1)), .agg (rq q1q), .agg (rq r6), .string (encP (gP P1)), .bool true, .bool true, .bool true, .agg (pr x1 y1), .agg (pr x2 y2), .bool true, .agg (rq q1q), .agg (rq q2q), .bool true, .bool true, .bool true, .bool true, .agg (pr x1 y1), .string s, .agg (pr 0 0), .string (encP nP), .agg (rq q1q), .string s, .agg (rq (mdQ 0 1)), .string (encP nP), .bool true, .bool true, .bool true, .bool true, .bool true, .bool true] (by kernel_rfl) (by kernel_rfl) (by kernel_rfl) (by kernel_rfl) (fun _ _ _ h => h) h30.drew ?_ ?_
      · refine AllSure.cons (OpSure.take (v := .agg (pr x1 y1)) (by kernel_rfl) (by kernel_rfl) (fun _ h => run_load_blk (by kernel_rfl) (h.get 3 rfl) Tryd.underlying27 rfl (info27p x1 y1))) ?_
        refine AllSure.cons (OpSure.take (v := .agg (pr x2 y2)) (by kernel_rfl) (by kernel_rfl) (fun _ h => run_load_blk (by kernel_rfl) (h.get 1 rfl) Tryd.underlying27 rfl (info27p x2 y2))) ?_
        refine AllSure.cons (sure_call (v := .agg (pr x3 y3)) (by kernel_rfl) (by kernel_rfl) enter18 HA.keep #[.agg (pr x1 y1), .agg (pr x2 y2)] (by kernel_rfl) (fun w' h' => c3 w' (VV.below h'.old VV.big))) ?_
        refine AllSure.cons (sure_call (v := .string (encP (aP P1 P2))) (by kernel_rfl) (by kernel_rfl) enter14 HA.keep #[.agg (pr x3 y3)] (by kernel_rfl) (fun w' h' => bytes_ex n3 w' (VV.below h'.old VV.big))) ?_
        refine AllSure.cons (OpSure.take (v := .agg (rq q1q)) (by kernel_rfl) (by kernel_rfl) (fun w' h' => run_load34 q1q (by kernel_rfl) (show Blk w' q12 34 (rq q1q) from h'.get 2 rfl))) ?_
        refine AllSure.cons (OpSure.take (v := .agg (rq q2q)) (by kernel_rfl) (by kernel_rfl) (fun w' h' => run_load34 q2q (by kernel_rfl) (show Blk w' q24 34 (rq q2q) from h'.get 0 rfl))) ?_
        refine AllSure.cons (sure_call (v := .agg (rq r4)) (by kernel_rfl) (by kernel_rfl) enter19 HA.keep #[.agg (rq q1q), .agg (rq q2q)] (by kernel_rfl) (fun w' h' => c4 w')) ?_
        refine AllSure.cons (sure_call (v := .string (encP (aP P1 P2))) (by kernel_rfl) (by kernel_rfl) enter15 HA.keep #[.agg (rq r4)] (by kernel_rfl) (fun w' h' => rbytes_ex k4 w')) ?_
        refine AllSure.cons (OpSure.take (v := .bool true) (by kernel_rfl) (by kernel_rfl) (fun _ _ => (run_eqs (s := (encP (aP P1 P2))) (t := (encP (aP P1 P2))) (by kernel_rfl) (by kernel_rfl) true (decide_eq_true rfl)))) ?_
        refine AllSure.cons (OpSure.take (v := .bool true) (by kernel_rfl) (by kernel_rfl) (fun _ _ => (by kernel_rfl))) ?_
        refine AllSure.cons (OpSure.take (v := .agg (pr x1 y1)) (by kernel_rfl) (by kernel_rfl) (fun _ h => run_load_blk (by kernel_rfl) (h.get 3 rfl) Tryd.underlying27 rfl (info27p x1 y1))) ?_
        refine AllSure.cons (sure_call (v := .agg (pr x5 y5)) (by kernel_rfl) (by kernel_rfl) enter20 HA.keep #[.agg (pr x1 y1)] (by kernel_rfl) (fun w' h' => c5 w' (VV.below h'.old VV.big))) ?_
        refine AllSure.cons (sure_call (v := .string (encP (gP P1))) (by kernel_rfl) (by kernel_rfl) enter14 HA.keep #[.agg (pr x5 y5)] (by kernel_rfl) (fun w' h' => bytes_ex n5 w' (VV.below h'.old VV.big))) ?_
        refine AllSure.cons (OpSure.take (v := .agg (rq q1q)) (by kernel_rfl) (by kernel_rfl) (fun w' h' => run_load34 q1q (by kernel_rfl) (show Blk w' q12 34 (rq q1q) from h'.get 2 rfl))) ?_
        refine AllSure.cons (sure_call (v := .agg (rq r6)) (by kernel_rfl) (by kernel_rfl) enter21 HA.keep #[.agg (rq q1q)] (by kernel_rfl) (fun w' h' => c6 w')) ?_
        refine AllSure.cons (sure_call (v := .string (encP (gP P1))) (by kernel_rfl) (by kernel_rfl) enter15 HA.keep #[.agg (rq r6)] (by kernel_rfl) (fun w' h' => rbytes_ex k6 w')) ?_
        refine AllSure.cons (OpSure.take (v := .bool true) (by kernel_rfl) (by kernel_rfl) (fun _ _ => (run_eqs (s := (encP (gP P1))) (t := (encP (gP P1))) (by kernel_rfl) (by kernel_rfl) true (decide_eq_true rfl)))) ?_
        refine AllSure.cons (OpSure.take (v := .bool true) (by kernel_rfl) (by kernel_rfl) (fun _ _ => (by kernel_rfl))) ?_
        refine AllSure.cons (OpSure.take (v := .bool true) (by kernel_rfl) (by kernel_rfl) (fun _ _ => (by kernel_rfl))) ?_
        refine AllSure.cons (OpSure.take (v := .agg (pr x1 y1)) (by kernel_rfl) (by kernel_rfl) (fun _ h => run_load_blk (by kernel_rfl) (h.get 3 rfl) Tryd.underlying27 rfl (info27p x1 y1))) ?_
        refine AllSure.cons (OpSure.take (v := .agg (pr x2 y2)) (by kernel_rfl) (by kernel_rfl) (fun _ h => run_load_blk (by kernel_rfl) (h.get 1 rfl) Tryd.underlying27 rfl (info27p x2 y2))) ?_
        refine AllSure.cons (sure_call (v := .bool true) (by kernel_rfl) (by kernel_rfl) enter22 HA.keep #[.agg (pr x1 y1), .agg (pr x2 y2)] (by kernel_rfl) (fun w' h' => same_yes n1 n2 hsame w')) ?_
        refine AllSure.cons (OpSure.take (v := .agg (rq q1q)) (by kernel_rfl) (by kernel_rfl) (fun w' h' => run_load34 q1q (by kernel_rfl) (show Blk w' q12 34 (rq q1q) from h'.get 2 rfl))) ?_
        refine AllSure.cons (OpSure.take (v := .agg (rq q2q)) (by kernel_rfl) (by kernel_rfl) (fun w' h' => run_load34 q2q (by kernel_rfl) (show Blk w' q24 34 (rq q2q) from h'.get 0 rfl))) ?_
        refine AllSure.cons (sure_call (v := .bool true) (by kernel_rfl) (by kernel_rfl) enter23 HA.keep #[.agg (rq q1q), .agg (rq q2q)] (by kernel_rfl) (fun w' h' => rsame_yes k1 k2 hsame w')) ?_
        refine AllSure.cons (OpSure.take (v := .bool true) (by kernel_rfl) (by kernel_rfl) (fun _ _ => (run_eqb true true (by kernel_rfl) (by kernel_rfl)))) ?_
        refine AllSure.cons (OpSure.take (v := .bool true) (by kernel_rfl) (by kernel_rfl) (fun _ _ => (by kernel_rfl))) ?_
        refine AllSure.cons (OpSure.take (v := .bool true) (by kernel_rfl) (by kernel_rfl) (fun _ _ => (by kernel_rfl))) ?_
        refine AllSure.cons (OpSure.take (v := .agg (pr x1 y1)) (by kernel_rfl) (by kernel_rfl) (fun _ h => run_load_blk (by kernel_rfl) (h.get 3 rfl) Tryd.underlying27 rfl (info27p x1 y1))) ?_
        refine AllSure.cons (OpSure.take (v := .string s) (by kernel_rfl) (by kernel_rfl) (fun _ _ => (by kernel_rfl))) ?_
        refine AllSure.cons (sure_call (v := .agg (pr 0 0)) (by kernel_rfl) (by kernel_rfl) enter24 HA.keep #[.agg (pr x1 y1), .string s] (by kernel_rfl) (fun w' h' => mul_no n1 s hs w' (VV.below h'.old VV.big))) ?_
        refine AllSure.cons (sure_call (v := .string (encP nP)) (by kernel_rfl) (by kernel_rfl) enter14 HA.keep #[.agg (pr 0 0)] (by kernel_rfl) (fun w' h' => bytes_ex Pn.none w' (VV.below h'.old VV.big))) ?_
        refine AllSure.cons (OpSure.take (v := .agg (rq q1q)) (by kernel_rfl) (by kernel_rfl) (fun w' h' => run_load34 q1q (by kernel_rfl) (show Blk w' q12 34 (rq q1q) from h'.get 2 rfl))) ?_
        refine AllSure.cons (OpSure.take (v := .string s) (by kernel_rfl) (by kernel_rfl) (fun _ _ => (by kernel_rfl))) ?_
        refine AllSure.cons (sure_call (v := .agg (rq (mdQ 0 1))) (by kernel_rfl) (by kernel_rfl) enter25 HA.keep #[.agg (rq q1q), .string s] (by kernel_rfl) (fun w' h' => rMul_no s hs q1q k1.lt w')) ?_
        refine AllSure.cons (sure_call (v := .string (encP nP)) (by kernel_rfl) (by kernel_rfl) enter15 HA.keep #[.agg (rq (mdQ 0 1))] (by kernel_rfl) (fun w' h' => rbytes_ex Rp.none w')) ?_
        refine AllSure.cons (OpSure.take (v := .bool true) (by kernel_rfl) (by kernel_rfl) (fun _ _ => (run_eqs (s := (encP nP)) (t := (encP nP)) (by kernel_rfl) (by kernel_rfl) true (decide_eq_true rfl)))) ?_
        refine AllSure.cons (OpSure.take (v := .bool true) (by kernel_rfl) (by kernel_rfl) (fun _ _ => (by kernel_rfl))) ?_
        refine AllSure.cons (OpSure.take (v := .bool true) (by kernel_rfl) (by kernel_rfl) (fun _ _ => (by kernel_rfl))) ?_
        refine AllSure.cons (sure_call (v := .bool true) (by kernel_rfl) (by kernel_rfl) enter16 HA.keep #[] (by kernel_rfl) (fun w' h' => works_any w' (VV.below h'.old VV.big))) ?_
        refine AllSure.cons (OpSure.take (v := .bool true) (by kernel_rfl) (by kernel_rfl) (fun _ _ => (by kernel_rfl))) ?_
        refine AllSure.cons (OpSure.take (v := .bool true) (by kernel_rfl) (by kernel_rfl) (fun _ _ => (by kernel_rfl))) ?_
        exact AllSure.nil
      intro w33 h34
      refine then_at (F := ⟨(.agg (cs l1).toArray :: .agg (cs l2).toArray :: .string s :: pt q1 :: pt q4 :: un :: .bool true :: pt q9 :: pt q12 :: pt q21 :: pt q24 :: .tuple #[.agg (pr x1 y1), .agg (rq q1q)] :: .agg (cs l1).toArray :: .tuple #[.agg (pr x1 y1), .agg (rq q1q)] :: .agg (pr x1 y1) :: .agg (rq q1q) :: .tuple #[.agg (pr x2 y2), .agg (rq q2q)] :: .agg (cs l2).toArray :: .tuple #[.agg (pr x2 y2), .agg (rq q2q)] :: .agg (pr x2 y2) :: .agg (rq q2q) :: .agg (pr x1 y1) :: .agg (pr x2 y2) :: .agg (pr x3 y3) :: .string (encP (aP P1 P2)) :: .agg (rq q1q) :: .agg (rq q2q) :: .agg (rq r4) :: .string (encP (aP P1 P2)) :: .bool true :: .bool true :: .agg (pr x1 y1) :: .agg (pr x5 y5) :: .string (encP (gP P1)) :: .agg (rq q1q) :: .agg (rq r6) :: .string (encP (gP P1)) :: .bool true :: .bool true :: .bool true :: .agg (pr x1 y1) :: .agg (pr x2 y2) :: .bool true :: .agg (rq q1q) :: .agg (rq q2q) :: .bool true :: .bool true :: .bool true :: .bool true :: .agg (pr x1 y1) :: .string s :: .agg (pr 0 0) :: .string (encP nP) :: .agg (rq q1q) :: .string s :: .agg (rq (mdQ 0 1)) :: .string (encP nP) :: .bool true :: .bool true :: .bool true :: .bool true :: .bool true :: List.replicate 0 un).toArray, []⟩) (by kernel_rfl) ?_
      refine wp_ret ?_
      repeat first | refine then_ret ?_ | refine block_ret ?_
      exact bodyPost_ret (v := .bool true) (by kernel_rfl) rfl ⟨rfl, h34.old⟩
  · by_cases hs : s.size = 32
    · -- region 3
      obtain ⟨x3, y3, n3, c3⟩ := add_ex n1 n2
      obtain ⟨r4, k4, c4⟩ := radd_ex k1 k2
      obtain ⟨x5, y5, n5, c5⟩ := neg_ex n1
      obtain ⟨r6, k6, c6⟩ := rneg_ex k1
      obtain ⟨x7, y7, n7, c7⟩ := mul_ex n1 s hs
      obtain ⟨r8, k8, c8⟩ := rmul_ex k1 s hs
      refine wp_region_sure ⟨(.agg (cs l1).toArray :: .agg (cs l2).toArray :: .string s :: pt q1 :: pt q4 :: un :: .bool true :: pt q9 :: pt q12 :: pt q21 :: pt q24 :: .tuple #[.agg (pr x1 y1), .agg (rq q1q)] :: .agg (cs l1).toArray :: .tuple #[.agg (pr x1 y1), .agg (rq q1q)] :: .agg (pr x1 y1) :: .agg (rq q1q) :: .tuple #[.agg (pr x2 y2), .agg (rq q2q)] :: .agg (cs l2).toArray :: .tuple #[.agg (pr x2 y2), .agg (rq q2q)] :: .agg (pr x2 y2) :: .agg (rq q2q) :: .agg (pr x1 y1) :: .agg (pr x2 y2) :: .agg (pr x3 y3) :: .string (encP (aP P1 P2)) :: .agg (rq q1q) :: .agg (rq q2q) :: .agg (rq r4) :: .string (encP (aP P1 P2)) :: .bool true :: .bool true :: .agg (pr x1 y1) :: .agg (pr x5 y5) :: .string (encP (gP P1)) :: .agg (rq q1q) :: .agg (rq r6) :: .string (encP (gP P1)) :: .bool true :: .bool true :: .bool true :: .agg (pr x1 y1) :: .agg (pr x2 y2) :: .bool false :: .agg (rq q1q) :: .agg (rq q2q) :: .bool false :: .bool true :: .bool true :: .bool true :: .agg (pr x1 y1) :: .string s :: .agg (pr x7 y7) :: .string (encP (mP P1 (numS s))) :: .agg (rq q1q) :: .string s :: .agg (rq r8) :: .string (encP (mP P1 (numS s))) :: .bool true :: .bool true :: .bool true :: .bool true :: .bool true :: List.replicate 0 un).toArray, []⟩ (HA w [(q24, 34, rq q2q), (q21, 27, pr x2 y2), (q12, 34, rq q1q), (q9, 27, pr x1 y1), (q4, 41, (cs l2).toArray), (q1, 41, (cs l1).toArray)]) [.agg (pr x1 y1), .agg (pr x2 y2), .agg (pr x3 y3), .string (encP (aP P1 P2)), .agg (rq q1q), .agg (rq q2q), .agg (rq r4), .string (encP (aP P1 P2)), .bool true, .bool true, .agg (pr x1 y1), .agg (pr x5 y5), .string (encP (gP P1)), .agg (rq q1q), .agg (rq r6), .string (encP (gP P1)), .bool true, .bool true, .bool true, .agg (pr x1 y1), .agg (pr x2 y2), .bool false, .agg (rq q1q), .agg (rq q2q), .bool false, .bool true, .bool true, .bool true, .agg (pr x1 y1), .string s, .agg (pr x7 y7), .string (encP (mP P1 (numS s))), .agg (rq q1q), .string s, .agg (rq r8), .string (encP (mP P1 (numS s))), .bool true, .bool true, .bool true, .bool true, .bool true, .bool true] (by kernel_rfl) (by kernel_rfl) (by kernel_rfl) (by kernel_rfl) (fun _ _ _ h => h) h30.drew ?_ ?_
      · refine AllSure.cons (OpSure.take (v := .agg (pr x1 y1)) (by kernel_rfl) (by kernel_rfl) (fun _ h => run_load_blk (by kernel_rfl) (h.get 3 rfl) Tryd.underlying27 rfl (info27p x1 y1))) ?_
        refine AllSure.cons (OpSure.take (v := .agg (pr x2 y2)) (by kernel_rfl) (by kernel_rfl) (fun _ h => run_load_blk (by kernel_rfl) (h.get 1 rfl) Tryd.underlying27 rfl (info27p x2 y2))) ?_
        refine AllSure.cons (sure_call (v := .agg (pr x3 y3)) (by kernel_rfl) (by kernel_rfl) enter18 HA.keep #[.agg (pr x1 y1), .agg (pr x2 y2)] (by kernel_rfl) (fun w' h' => c3 w' (VV.below h'.old VV.big))) ?_
        refine AllSure.cons (sure_call (v := .string (encP (aP P1 P2))) (by kernel_rfl) (by kernel_rfl) enter14 HA.keep #[.agg (pr x3 y3)] (by kernel_rfl) (fun w' h' => bytes_ex n3 w' (VV.below h'.old VV.big))) ?_
        refine AllSure.cons (OpSure.take (v := .agg (rq q1q)) (by kernel_rfl) (by kernel_rfl) (fun w' h' => run_load34 q1q (by kernel_rfl) (show Blk w' q12 34 (rq q1q) from h'.get 2 rfl))) ?_
        refine AllSure.cons (OpSure.take (v := .agg (rq q2q)) (by kernel_rfl) (by kernel_rfl) (fun w' h' => run_load34 q2q (by kernel_rfl) (show Blk w' q24 34 (rq q2q) from h'.get 0 rfl))) ?_
        refine AllSure.cons (sure_call (v := .agg (rq r4)) (by kernel_rfl) (by kernel_rfl) enter19 HA.keep #[.agg (rq q1q), .agg (rq q2q)] (by kernel_rfl) (fun w' h' => c4 w')) ?_
        refine AllSure.cons (sure_call (v := .string (encP (aP P1 P2))) (by kernel_rfl) (by kernel_rfl) enter15 HA.keep #[.agg (rq r4)] (by kernel_rfl) (fun w' h' => rbytes_ex k4 w')) ?_
        refine AllSure.cons (OpSure.take (v := .bool true) (by kernel_rfl) (by kernel_rfl) (fun _ _ => (run_eqs (s := (encP (aP P1 P2))) (t := (encP (aP P1 P2))) (by kernel_rfl) (by kernel_rfl) true (decide_eq_true rfl)))) ?_
        refine AllSure.cons (OpSure.take (v := .bool true) (by kernel_rfl) (by kernel_rfl) (fun _ _ => (by kernel_rfl))) ?_
        refine AllSure.cons (OpSure.take (v := .agg (pr x1 y1)) (by kernel_rfl) (by kernel_rfl) (fun _ h => run_load_blk (by kernel_rfl) (h.get 3 rfl) Tryd.underlying27 rfl (info27p x1 y1))) ?_
        refine AllSure.cons (sure_call (v := .agg (pr x5 y5)) (by kernel_rfl) (by kernel_rfl) enter20 HA.keep #[.agg (pr x1 y1)] (by kernel_rfl) (fun w' h' => c5 w' (VV.below h'.old VV.big))) ?_
        refine AllSure.cons (sure_call (v := .string (encP (gP P1))) (by kernel_rfl) (by kernel_rfl) enter14 HA.keep #[.agg (pr x5 y5)] (by kernel_rfl) (fun w' h' => bytes_ex n5 w' (VV.below h'.old VV.big))) ?_
        refine AllSure.cons (OpSure.take (v := .agg (rq q1q)) (by kernel_rfl) (by kernel_rfl) (fun w' h' => run_load34 q1q (by kernel_rfl) (show Blk w' q12 34 (rq q1q) from h'.get 2 rfl))) ?_
        refine AllSure.cons (sure_call (v := .agg (rq r6)) (by kernel_rfl) (by kernel_rfl) enter21 HA.keep #[.agg (rq q1q)] (by kernel_rfl) (fun w' h' => c6 w')) ?_
        refine AllSure.cons (sure_call (v := .string (encP (gP P1))) (by kernel_rfl) (by kernel_rfl) enter15 HA.keep #[.agg (rq r6)] (by kernel_rfl) (fun w' h' => rbytes_ex k6 w')) ?_
        refine AllSure.cons (OpSure.take (v := .bool true) (by kernel_rfl) (by kernel_rfl) (fun _ _ => (run_eqs (s := (encP (gP P1))) (t := (encP (gP P1))) (by kernel_rfl) (by kernel_rfl) true (decide_eq_true rfl)))) ?_
        refine AllSure.cons (OpSure.take (v := .bool true) (by kernel_rfl) (by kernel_rfl) (fun _ _ => (by kernel_rfl))) ?_
        refine AllSure.cons (OpSure.take (v := .bool true) (by kernel_rfl) (by kernel_rfl) (fun _ _ => (by kernel_rfl))) ?_
        refine AllSure.cons (OpSure.take (v := .agg (pr x1 y1)) (by kernel_rfl) (by kernel_rfl) (fun _ h => run_load_blk (by kernel_rfl) (h.get 3 rfl) Tryd.underlying27 rfl (info27p x1 y1))) ?_
        refine AllSure.cons (OpSure.take (v := .agg (pr x2 y2)) (by kernel_rfl) (by kernel_rfl) (fun _ h => run_load_blk (by kernel_rfl) (h.get 1 rfl) Tryd.underlying27 rfl (info27p x2 y2))) ?_
        refine AllSure.cons (sure_call (v := .bool false) (by kernel_rfl) (by kernel_rfl) enter22 HA.keep #[.agg (pr x1 y1), .agg (pr x2 y2)] (by kernel_rfl) (fun w' h' => same_no n1 n2 hsame w')) ?_
        refine AllSure.cons (OpSure.take (v := .agg (rq q1q)) (by kernel_rfl) (by kernel_rfl) (fun w' h' => run_load34 q1q (by kernel_rfl) (show Blk w' q12 34 (rq q1q) from h'.get 2 rfl))) ?_
        refine AllSure.cons (OpSure.take (v := .agg (rq q2q)) (by kernel_rfl) (by kernel_rfl) (fun w' h' => run_load34 q2q (by kernel_rfl) (show Blk w' q24 34 (rq q2q) from h'.get 0 rfl))) ?_
        refine AllSure.cons (sure_call (v := .bool false) (by kernel_rfl) (by kernel_rfl) enter23 HA.keep #[.agg (rq q1q), .agg (rq q2q)] (by kernel_rfl) (fun w' h' => rsame_no k1 k2 hsame w')) ?_
        refine AllSure.cons (OpSure.take (v := .bool true) (by kernel_rfl) (by kernel_rfl) (fun _ _ => (run_eqb false false (by kernel_rfl) (by kernel_rfl)))) ?_
        refine AllSure.cons (OpSure.take (v := .bool true) (by kernel_rfl) (by kernel_rfl) (fun _ _ => (by kernel_rfl))) ?_
        refine AllSure.cons (OpSure.take (v := .bool true) (by kernel_rfl) (by kernel_rfl) (fun _ _ => (by kernel_rfl))) ?_
        refine AllSure.cons (OpSure.take (v := .agg (pr x1 y1)) (by kernel_rfl) (by kernel_rfl) (fun _ h => run_load_blk (by kernel_rfl) (h.get 3 rfl) Tryd.underlying27 rfl (info27p x1 y1))) ?_
        refine AllSure.cons (OpSure.take (v := .string s) (by kernel_rfl) (by kernel_rfl) (fun _ _ => (by kernel_rfl))) ?_
        refine AllSure.cons (sure_call (v := .agg (pr x7 y7)) (by kernel_rfl) (by kernel_rfl) enter24 HA.keep #[.agg (pr x1 y1), .string s] (by kernel_rfl) (fun w' h' => c7 w' (VV.below h'.old VV.big))) ?_
        refine AllSure.cons (sure_call (v := .string (encP (mP P1 (numS s)))) (by kernel_rfl) (by kernel_rfl) enter14 HA.keep #[.agg (pr x7 y7)] (by kernel_rfl) (fun w' h' => bytes_ex n7 w' (VV.below h'.old VV.big))) ?_
        refine AllSure.cons (OpSure.take (v := .agg (rq q1q)) (by kernel_rfl) (by kernel_rfl) (fun w' h' => run_load34 q1q (by kernel_rfl) (show Blk w' q12 34 (rq q1q) from h'.get 2 rfl))) ?_
        refine AllSure.cons (OpSure.take (v := .string s) (by kernel_rfl) (by kernel_rfl) (fun _ _ => (by kernel_rfl))) ?_
        refine AllSure.cons (sure_call (v := .agg (rq r8)) (by kernel_rfl) (by kernel_rfl) enter25 HA.keep #[.agg (rq q1q), .string s] (by kernel_rfl) (fun w' h' => c8 w')) ?_
        refine AllSure.cons (sure_call (v := .string (encP (mP P1 (numS s)))) (by kernel_rfl) (by kernel_rfl) enter15 HA.keep #[.agg (rq r8)] (by kernel_rfl) (fun w' h' => rbytes_ex k8 w')) ?_
        refine AllSure.cons (OpSure.take (v := .bool true) (by kernel_rfl) (by kernel_rfl) (fun _ _ => (run_eqs (s := (encP (mP P1 (numS s)))) (t := (encP (mP P1 (numS s)))) (by kernel_rfl) (by kernel_rfl) true (decide_eq_true rfl)))) ?_
        refine AllSure.cons (OpSure.take (v := .bool true) (by kernel_rfl) (by kernel_rfl) (fun _ _ => (by kernel_rfl))) ?_
        refine AllSure.cons (OpSure.take (v := .bool true) (by kernel_rfl) (by kernel_rfl) (fun _ _ => (by kernel_rfl))) ?_
        refine AllSure.cons (sure_call (v := .bool true) (by kernel_rfl) (by kernel_rfl) enter16 HA.keep #[] (by kernel_rfl) (fun w' h' => works_any w' (VV.below h'.old VV.big))) ?_
        refine AllSure.cons (OpSure.take (v := .bool true) (by kernel_rfl) (by kernel_rfl) (fun _ _ => (by kernel_rfl))) ?_
        refine AllSure.cons (OpSure.take (v := .bool true) (by kernel_rfl) (by kernel_rfl) (fun _ _ => (by kernel_rfl))) ?_
        exact AllSure.nil
      intro w35 h36
      refine then_at (F := ⟨(.agg (cs l1).toArray :: .agg (cs l2).toArray :: .string s :: pt q1 :: pt q4 :: un :: .bool true :: pt q9 :: pt q12 :: pt q21 :: pt q24 :: .tuple #[.agg (pr x1 y1), .agg (rq q1q)] :: .agg (cs l1).toArray :: .tuple #[.agg (pr x1 y1), .agg (rq q1q)] :: .agg (pr x1 y1) :: .agg (rq q1q) :: .tuple #[.agg (pr x2 y2), .agg (rq q2q)] :: .agg (cs l2).toArray :: .tuple #[.agg (pr x2 y2), .agg (rq q2q)] :: .agg (pr x2 y2) :: .agg (rq q2q) :: .agg (pr x1 y1) :: .agg (pr x2 y2) :: .agg (pr x3 y3) :: .string (encP (aP P1 P2)) :: .agg (rq q1q) :: .agg (rq q2q) :: .agg (rq r4) :: .string (encP (aP P1 P2)) :: .bool true :: .bool true :: .agg (pr x1 y1) :: .agg (pr x5 y5) :: .string (encP (gP P1)) :: .agg (rq q1q) :: .agg (rq r6) :: .string (encP (gP P1)) :: .bool true :: .bool true :: .bool true :: .agg (pr x1 y1) :: .agg (pr x2 y2) :: .bool false :: .agg (rq q1q) :: .agg (rq q2q) :: .bool false :: .bool true :: .bool true :: .bool true :: .agg (pr x1 y1) :: .string s :: .agg (pr x7 y7) :: .string (encP (mP P1 (numS s))) :: .agg (rq q1q) :: .string s :: .agg (rq r8) :: .string (encP (mP P1 (numS s))) :: .bool true :: .bool true :: .bool true :: .bool true :: .bool true :: List.replicate 0 un).toArray, []⟩) (by kernel_rfl) ?_
      refine wp_ret ?_
      repeat first | refine then_ret ?_ | refine block_ret ?_
      exact bodyPost_ret (v := .bool true) (by kernel_rfl) rfl ⟨rfl, h36.old⟩
    · -- region 3
      obtain ⟨x3, y3, n3, c3⟩ := add_ex n1 n2
      obtain ⟨r4, k4, c4⟩ := radd_ex k1 k2
      obtain ⟨x5, y5, n5, c5⟩ := neg_ex n1
      obtain ⟨r6, k6, c6⟩ := rneg_ex k1
      refine wp_region_sure ⟨(.agg (cs l1).toArray :: .agg (cs l2).toArray :: .string s :: pt q1 :: pt q4 :: un :: .bool true :: pt q9 :: pt q12 :: pt q21 :: pt q24 :: .tuple #[.agg (pr x1 y1), .agg (rq q1q)] :: .agg (cs l1).toArray :: .tuple #[.agg (pr x1 y1), .agg (rq q1q)] :: .agg (pr x1 y1) :: .agg (rq q1q) :: .tuple #[.agg (pr x2 y2), .agg (rq q2q)] :: .agg (cs l2).toArray :: .tuple #[.agg (pr x2 y2), .agg (rq q2q)] :: .agg (pr x2 y2) :: .agg (rq q2q) :: .agg (pr x1 y1) :: .agg (pr x2 y2) :: .agg (pr x3 y3) :: .string (encP (aP P1 P2)) :: .agg (rq q1q) :: .agg (rq q2q) :: .agg (rq r4) :: .string (encP (aP P1 P2)) :: .bool true :: .bool true :: .agg (pr x1 y1) :: .agg (pr x5 y5) :: .string (encP (gP P1)) :: .agg (rq q1q) :: .agg (rq r6) :: .string (encP (gP P1)) :: .bool true :: .bool true :: .bool true :: .agg (pr x1 y1) :: .agg (pr x2 y2) :: .bool false :: .agg (rq q1q) :: .agg (rq q2q) :: .bool false :: .bool true :: .bool true :: .bool true :: .agg (pr x1 y1) :: .string s :: .agg (pr 0 0) :: .string (encP nP) :: .agg (rq q1q) :: .string s :: .agg (rq (mdQ 0 1)) :: .string (encP nP) :: .bool true :: .bool true :: .bool true :: .bool true :: .bool true :: List.replicate 0 un).toArray, []⟩ (HA w [(q24, 34, rq q2q), (q21, 27, pr x2 y2), (q12, 34, rq q1q), (q9, 27, pr x1 y1), (q4, 41, (cs l2).toArray), (q1, 41, (cs l1).toArray)]) [.agg (pr x1 y1), .agg (pr x2 y2), .agg (pr x3 y3), .string (encP (aP P1 P2)), .agg (rq q1q), .agg (rq q2q), .agg (rq r4), .string (encP (aP P1 P2)), .bool true, .bool true, .agg (pr x1 y1), .agg (pr x5 y5), .string (encP (gP P1)), .agg (rq q1q), .agg (rq r6), .string (encP (gP P1)), .bool true, .bool true, .bool true, .agg (pr x1 y1), .agg (pr x2 y2), .bool false, .agg (rq q1q), .agg (rq q2q), .bool false, .bool true, .bool true, .bool true, .agg (pr x1 y1), .string s, .agg (pr 0 0), .string (encP nP), .agg (rq q1q), .string s, .agg (rq (mdQ 0 1)), .string (encP nP), .bool true, .bool true, .bool true, .bool true, .bool true, .bool true] (by kernel_rfl) (by kernel_rfl) (by kernel_rfl) (by kernel_rfl) (fun _ _ _ h => h) h30.drew ?_ ?_
      · refine AllSure.cons (OpSure.take (v := .agg (pr x1 y1)) (by kernel_rfl) (by kernel_rfl) (fun _ h => run_load_blk (by kernel_rfl) (h.get 3 rfl) Tryd.underlying27 rfl (info27p x1 y1))) ?_
        refine AllSure.cons (OpSure.take (v := .agg (pr x2 y2)) (by kernel_rfl) (by kernel_rfl) (fun _ h => run_load_blk (by kernel_rfl) (h.get 1 rfl) Tryd.underlying27 rfl (info27p x2 y2))) ?_
        refine AllSure.cons (sure_call (v := .agg (pr x3 y3)) (by kernel_rfl) (by kernel_rfl) enter18 HA.keep #[.agg (pr x1 y1), .agg (pr x2 y2)] (by kernel_rfl) (fun w' h' => c3 w' (VV.below h'.old VV.big))) ?_
        refine AllSure.cons (sure_call (v := .string (encP (aP P1 P2))) (by kernel_rfl) (by kernel_rfl) enter14 HA.keep #[.agg (pr x3 y3)] (by kernel_rfl) (fun w' h' => bytes_ex n3 w' (VV.below h'.old VV.big))) ?_
        refine AllSure.cons (OpSure.take (v := .agg (rq q1q)) (by kernel_rfl) (by kernel_rfl) (fun w' h' => run_load34 q1q (by kernel_rfl) (show Blk w' q12 34 (rq q1q) from h'.get 2 rfl))) ?_
        refine AllSure.cons (OpSure.take (v := .agg (rq q2q)) (by kernel_rfl) (by kernel_rfl) (fun w' h' => run_load34 q2q (by kernel_rfl) (show Blk w' q24 34 (rq q2q) from h'.get 0 rfl))) ?_
        refine AllSure.cons (sure_call (v := .agg (rq r4)) (by kernel_rfl) (by kernel_rfl) enter19 HA.keep #[.agg (rq q1q), .agg (rq q2q)] (by kernel_rfl) (fun w' h' => c4 w')) ?_
        refine AllSure.cons (sure_call (v := .string (encP (aP P1 P2))) (by kernel_rfl) (by kernel_rfl) enter15 HA.keep #[.agg (rq r4)] (by kernel_rfl) (fun w' h' => rbytes_ex k4 w')) ?_
        refine AllSure.cons (OpSure.take (v := .bool true) (by kernel_rfl) (by kernel_rfl) (fun _ _ => (run_eqs (s := (encP (aP P1 P2))) (t := (encP (aP P1 P2))) (by kernel_rfl) (by kernel_rfl) true (decide_eq_true rfl)))) ?_
        refine AllSure.cons (OpSure.take (v := .bool true) (by kernel_rfl) (by kernel_rfl) (fun _ _ => (by kernel_rfl))) ?_
        refine AllSure.cons (OpSure.take (v := .agg (pr x1 y1)) (by kernel_rfl) (by kernel_rfl) (fun _ h => run_load_blk (by kernel_rfl) (h.get 3 rfl) Tryd.underlying27 rfl (info27p x1 y1))) ?_
        refine AllSure.cons (sure_call (v := .agg (pr x5 y5)) (by kernel_rfl) (by kernel_rfl) enter20 HA.keep #[.agg (pr x1 y1)] (by kernel_rfl) (fun w' h' => c5 w' (VV.below h'.old VV.big))) ?_
        refine AllSure.cons (sure_call (v := .string (encP (gP P1))) (by kernel_rfl) (by kernel_rfl) enter14 HA.keep #[.agg (pr x5 y5)] (by kernel_rfl) (fun w' h' => bytes_ex n5 w' (VV.below h'.old VV.big))) ?_
        refine AllSure.cons (OpSure.take (v := .agg (rq q1q)) (by kernel_rfl) (by kernel_rfl) (fun w' h' => run_load34 q1q (by kernel_rfl) (show Blk w' q12 34 (rq q1q) from h'.get 2 rfl))) ?_
        refine AllSure.cons (sure_call (v := .agg (rq r6)) (by kernel_rfl) (by kernel_rfl) enter21 HA.keep #[.agg (rq q1q)] (by kernel_rfl) (fun w' h' => c6 w')) ?_
        refine AllSure.cons (sure_call (v := .string (encP (gP P1))) (by kernel_rfl) (by kernel_rfl) enter15 HA.keep #[.agg (rq r6)] (by kernel_rfl) (fun w' h' => rbytes_ex k6 w')) ?_
        refine AllSure.cons (OpSure.take (v := .bool true) (by kernel_rfl) (by kernel_rfl) (fun _ _ => (run_eqs (s := (encP (gP P1))) (t := (encP (gP P1))) (by kernel_rfl) (by kernel_rfl) true (decide_eq_true rfl)))) ?_
        refine AllSure.cons (OpSure.take (v := .bool true) (by kernel_rfl) (by kernel_rfl) (fun _ _ => (by kernel_rfl))) ?_
        refine AllSure.cons (OpSure.take (v := .bool true) (by kernel_rfl) (by kernel_rfl) (fun _ _ => (by kernel_rfl))) ?_
        refine AllSure.cons (OpSure.take (v := .agg (pr x1 y1)) (by kernel_rfl) (by kernel_rfl) (fun _ h => run_load_blk (by kernel_rfl) (h.get 3 rfl) Tryd.underlying27 rfl (info27p x1 y1))) ?_
        refine AllSure.cons (OpSure.take (v := .agg (pr x2 y2)) (by kernel_rfl) (by kernel_rfl) (fun _ h => run_load_blk (by kernel_rfl) (h.get 1 rfl) Tryd.underlying27 rfl (info27p x2 y2))) ?_
        refine AllSure.cons (sure_call (v := .bool false) (by kernel_rfl) (by kernel_rfl) enter22 HA.keep #[.agg (pr x1 y1), .agg (pr x2 y2)] (by kernel_rfl) (fun w' h' => same_no n1 n2 hsame w')) ?_
        refine AllSure.cons (OpSure.take (v := .agg (rq q1q)) (by kernel_rfl) (by kernel_rfl) (fun w' h' => run_load34 q1q (by kernel_rfl) (show Blk w' q12 34 (rq q1q) from h'.get 2 rfl))) ?_
        refine AllSure.cons (OpSure.take (v := .agg (rq q2q)) (by kernel_rfl) (by kernel_rfl) (fun w' h' => run_load34 q2q (by kernel_rfl) (show Blk w' q24 34 (rq q2q) from h'.get 0 rfl))) ?_
        refine AllSure.cons (sure_call (v := .bool false) (by kernel_rfl) (by kernel_rfl) enter23 HA.keep #[.agg (rq q1q), .agg (rq q2q)] (by kernel_rfl) (fun w' h' => rsame_no k1 k2 hsame w')) ?_
        refine AllSure.cons (OpSure.take (v := .bool true) (by kernel_rfl) (by kernel_rfl) (fun _ _ => (run_eqb false false (by kernel_rfl) (by kernel_rfl)))) ?_
        refine AllSure.cons (OpSure.take (v := .bool true) (by kernel_rfl) (by kernel_rfl) (fun _ _ => (by kernel_rfl))) ?_
        refine AllSure.cons (OpSure.take (v := .bool true) (by kernel_rfl) (by kernel_rfl) (fun _ _ => (by kernel_rfl))) ?_
        refine AllSure.cons (OpSure.take (v := .agg (pr x1 y1)) (by kernel_rfl) (by kernel_rfl) (fun _ h => run_load_blk (by kernel_rfl) (h.get 3 rfl) Tryd.underlying27 rfl (info27p x1 y1))) ?_
        refine AllSure.cons (OpSure.take (v := .string s) (by kernel_rfl) (by kernel_rfl) (fun _ _ => (by kernel_rfl))) ?_
        refine AllSure.cons (sure_call (v := .agg (pr 0 0)) (by kernel_rfl) (by kernel_rfl) enter24 HA.keep #[.agg (pr x1 y1), .string s] (by kernel_rfl) (fun w' h' => mul_no n1 s hs w' (VV.below h'.old VV.big))) ?_
        refine AllSure.cons (sure_call (v := .string (encP nP)) (by kernel_rfl) (by kernel_rfl) enter14 HA.keep #[.agg (pr 0 0)] (by kernel_rfl) (fun w' h' => bytes_ex Pn.none w' (VV.below h'.old VV.big))) ?_
        refine AllSure.cons (OpSure.take (v := .agg (rq q1q)) (by kernel_rfl) (by kernel_rfl) (fun w' h' => run_load34 q1q (by kernel_rfl) (show Blk w' q12 34 (rq q1q) from h'.get 2 rfl))) ?_
        refine AllSure.cons (OpSure.take (v := .string s) (by kernel_rfl) (by kernel_rfl) (fun _ _ => (by kernel_rfl))) ?_
        refine AllSure.cons (sure_call (v := .agg (rq (mdQ 0 1))) (by kernel_rfl) (by kernel_rfl) enter25 HA.keep #[.agg (rq q1q), .string s] (by kernel_rfl) (fun w' h' => rMul_no s hs q1q k1.lt w')) ?_
        refine AllSure.cons (sure_call (v := .string (encP nP)) (by kernel_rfl) (by kernel_rfl) enter15 HA.keep #[.agg (rq (mdQ 0 1))] (by kernel_rfl) (fun w' h' => rbytes_ex Rp.none w')) ?_
        refine AllSure.cons (OpSure.take (v := .bool true) (by kernel_rfl) (by kernel_rfl) (fun _ _ => (run_eqs (s := (encP nP)) (t := (encP nP)) (by kernel_rfl) (by kernel_rfl) true (decide_eq_true rfl)))) ?_
        refine AllSure.cons (OpSure.take (v := .bool true) (by kernel_rfl) (by kernel_rfl) (fun _ _ => (by kernel_rfl))) ?_
        refine AllSure.cons (OpSure.take (v := .bool true) (by kernel_rfl) (by kernel_rfl) (fun _ _ => (by kernel_rfl))) ?_
        refine AllSure.cons (sure_call (v := .bool true) (by kernel_rfl) (by kernel_rfl) enter16 HA.keep #[] (by kernel_rfl) (fun w' h' => works_any w' (VV.below h'.old VV.big))) ?_
        refine AllSure.cons (OpSure.take (v := .bool true) (by kernel_rfl) (by kernel_rfl) (fun _ _ => (by kernel_rfl))) ?_
        refine AllSure.cons (OpSure.take (v := .bool true) (by kernel_rfl) (by kernel_rfl) (fun _ _ => (by kernel_rfl))) ?_
        exact AllSure.nil
      intro w37 h38
      refine then_at (F := ⟨(.agg (cs l1).toArray :: .agg (cs l2).toArray :: .string s :: pt q1 :: pt q4 :: un :: .bool true :: pt q9 :: pt q12 :: pt q21 :: pt q24 :: .tuple #[.agg (pr x1 y1), .agg (rq q1q)] :: .agg (cs l1).toArray :: .tuple #[.agg (pr x1 y1), .agg (rq q1q)] :: .agg (pr x1 y1) :: .agg (rq q1q) :: .tuple #[.agg (pr x2 y2), .agg (rq q2q)] :: .agg (cs l2).toArray :: .tuple #[.agg (pr x2 y2), .agg (rq q2q)] :: .agg (pr x2 y2) :: .agg (rq q2q) :: .agg (pr x1 y1) :: .agg (pr x2 y2) :: .agg (pr x3 y3) :: .string (encP (aP P1 P2)) :: .agg (rq q1q) :: .agg (rq q2q) :: .agg (rq r4) :: .string (encP (aP P1 P2)) :: .bool true :: .bool true :: .agg (pr x1 y1) :: .agg (pr x5 y5) :: .string (encP (gP P1)) :: .agg (rq q1q) :: .agg (rq r6) :: .string (encP (gP P1)) :: .bool true :: .bool true :: .bool true :: .agg (pr x1 y1) :: .agg (pr x2 y2) :: .bool false :: .agg (rq q1q) :: .agg (rq q2q) :: .bool false :: .bool true :: .bool true :: .bool true :: .agg (pr x1 y1) :: .string s :: .agg (pr 0 0) :: .string (encP nP) :: .agg (rq q1q) :: .string s :: .agg (rq (mdQ 0 1)) :: .string (encP nP) :: .bool true :: .bool true :: .bool true :: .bool true :: .bool true :: List.replicate 0 un).toArray, []⟩) (by kernel_rfl) ?_
      refine wp_ret ?_
      repeat first | refine then_ret ?_ | refine block_ret ?_
      exact bodyPost_ret (v := .bool true) (by kernel_rfl) rfl ⟨rfl, h38.old⟩
end Go.Proofs.YtpaendmdcdeemaaDoor
