/-
  the law of bytes that come back.
-/
import Derived.Test.YtpaendmdcdeemaaDoorCvX
import Derived.Test.YtpaendmdcdeemaaDoorCuU
namespace Go.Proofs.YtpaendmdcdeemaaDoor
open Go.RowKit Num


set_option linter.unusedVariables false in
set_option maxRecDepth 100000 in
set_option maxHeartbeats 2000000 in
theorem CurveBack_any (s : ByteArray) (l1 : List UInt8) (hl1 : l1.length = 32) (w : World) (VV : Vars w) :
    Calls Tryd.prog 10 #[.string s, .agg (cs l1).toArray] w fun e w' => e = .returned (.bool true) ∧ Below w.heap.size w w' := by
  have H0 := HA.start w
  go_enter Tryd.func10, Tryd.ntmps10
  refine wp_seq ?_
  -- region 0
  refine wl_region ?_
  refine wl_make H0 41 (by kernel_rfl) (run_box41 (c := (cs l1).toArray) (by kernel_rfl)) ?_
  intro q1 w2 h3
  refine wl_val (.bool false) (by kernel_rfl) (by kernel_rfl) ?_
  refine wl_nil ?_
  refine then_at (F := ⟨(.string s :: .agg (cs l1).toArray :: un :: pt q1 :: .bool false :: List.replicate 50 un).toArray, []⟩) (by kernel_rfl) ?_
  refine wp_seq ?_
  refine wp_seq ?_
  -- region 1
  refine wl_region ?_
  refine wl_call (v := .bool true) h3 (by kernel_rfl) enter16 #[] (by kernel_rfl) (works_any w2 (VV.below h3.old VV.big)) ?_
  intro w4 h5
  refine wl_val (.bool false) (by kernel_rfl) (by kernel_rfl) ?_
  refine wl_nil ?_
  refine then_at (F := ⟨(.string s :: .agg (cs l1).toArray :: un :: pt q1 :: .bool false :: un :: un :: un :: un :: un :: .bool true :: .bool false :: List.replicate 43 un).toArray, []⟩) (by kernel_rfl) ?_
  refine wp_cond_false (by kernel_rfl) ?_
  refine wp_skip ?_
  refine then_at (F := ⟨(.string s :: .agg (cs l1).toArray :: un :: pt q1 :: .bool false :: un :: un :: un :: un :: un :: .bool true :: .bool false :: List.replicate 43 un).toArray, []⟩) (by kernel_rfl) ?_
  refine wp_seq ?_
  -- region 3
  refine wl_region ?_
  refine wl_load h5 0 rfl (by kernel_rfl) (by kernel_rfl) Tryd.underlying41 rfl (info41l l1 hl1) ?_
  obtain ⟨x1, y1, P1, n1, c1⟩ := point_ex l1 hl1
  refine wl_call (v := .agg (pr x1 y1)) h5 (by kernel_rfl) enter28 #[.agg (cs l1).toArray] (by kernel_rfl) (c1 w4 (VV.below h5.old VV.big)) ?_
  intro w6 h7
  refine wl_make h7 27 (by kernel_rfl) run_alloc27 ?_
  intro q8 w9 h10
  refine wl_fill (c' := pr x1 y1) h10 0 rfl (by kernel_rfl) (by kernel_rfl) (by kernel_rfl) (pr_sz x1 y1 0 0) (info27p x1 y1) (one_pr x1 y1) ?_
  intro w11 (h12 : HA w [(q8, 27, pr x1 y1), (q1, 41, (cs l1).toArray)] w11)
  refine wl_nil ?_
  refine then_at (F := ⟨(.string s :: .agg (cs l1).toArray :: un :: pt q1 :: .bool false :: pt q8 :: un :: un :: un :: un :: .bool true :: .bool false :: .agg (cs l1).toArray :: .agg (pr x1 y1) :: List.replicate 41 un).toArray, []⟩) (by kernel_rfl) ?_
  refine wp_seq ?_
  -- region 4
  refine wl_region ?_
  refine wl_load h12 0 rfl (by kernel_rfl) (by kernel_rfl) Tryd.underlying27 rfl (info27p x1 y1) ?_
  refine wl_call (v := .string (encP P1)) h12 (by kernel_rfl) enter14 #[.agg (pr x1 y1)] (by kernel_rfl) (bytes_ex n1 w11 (VV.below h12.old VV.big)) ?_
  intro w13 h14
  refine wl_call (v := .tuple #[.agg (pr P1.x.val ((subP P1.y.val 1))), .bool true]) h14 (by kernel_rfl) enter12 #[.string (encP P1)] (by kernel_rfl) (of_enc P1 w13 (VV.below h14.old VV.big)) ?_
  intro w15 h16
  refine wl_val (.tuple #[.agg (pr P1.x.val ((subP P1.y.val 1))), .bool true]) (by kernel_rfl) (by kernel_rfl) ?_
  refine wl_val (.agg (pr P1.x.val ((subP P1.y.val 1)))) (by kernel_rfl) (by kernel_rfl) ?_
  refine wl_val (.bool true) (by kernel_rfl) (by kernel_rfl) ?_
  refine wl_make h16 27 (by kernel_rfl) run_alloc27 ?_
  intro q17 w18 h19
  refine wl_fill (c' := pr P1.x.val ((subP P1.y.val 1))) h19 0 rfl (by kernel_rfl) (by kernel_rfl) (by kernel_rfl) (pr_sz P1.x.val ((subP P1.y.val 1)) 0 0) (info27p P1.x.val ((subP P1.y.val 1))) (one_pr P1.x.val ((subP P1.y.val 1))) ?_
  intro w20 (h21 : HA w [(q17, 27, pr P1.x.val ((subP P1.y.val 1))), (q8, 27, pr x1 y1), (q1, 41, (cs l1).toArray)] w20)
  refine wl_val (.bool true) (by kernel_rfl) (by kernel_rfl) ?_
  refine wl_nil ?_
  refine then_at (F := ⟨(.string s :: .agg (cs l1).toArray :: un :: pt q1 :: .bool false :: pt q8 :: pt q17 :: .bool true :: un :: un :: .bool true :: .bool false :: .agg (cs l1).toArray :: .agg (pr x1 y1) :: .tuple #[.agg (pr P1.x.val ((subP P1.y.val 1))), .bool true] :: .agg (pr x1 y1) :: .string (encP P1) :: .tuple #[.agg (pr P1.x.val ((subP P1.y.val 1))), .bool true] :: .agg (pr P1.x.val ((subP P1.y.val 1))) :: .bool true :: List.replicate 35 un).toArray, []⟩) (by kernel_rfl) ?_
  refine wp_seq ?_
  refine wp_seq ?_
  -- region 5
  refine wl_region ?_
  refine wl_val (.bool true) (by kernel_rfl) (by kernel_rfl) ?_
  refine wl_val (.bool false) (by kernel_rfl) (by kernel_rfl) ?_
  refine wl_val (.bool false) (by kernel_rfl) (by kernel_rfl) ?_
  refine wl_load h21 1 rfl (by kernel_rfl) (by kernel_rfl) Tryd.underlying27 rfl (info27p x1 y1) ?_
  refine wl_load h21 0 rfl (by kernel_rfl) (by kernel_rfl) Tryd.underlying27 rfl (info27p P1.x.val ((subP P1.y.val 1))) ?_
  refine wl_call (v := .bool true) h21 (by kernel_rfl) enter22 #[.agg (pr x1 y1), .agg (pr P1.x.val ((subP P1.y.val 1)))] (by kernel_rfl) (same_yes n1 (Pn.self P1) (rfl) w20) ?_
  intro w22 h23
  refine wl_val (.bool false) (by kernel_rfl) (by kernel_rfl) ?_
  refine wl_val (.bool false) (by kernel_rfl) (by kernel_rfl) ?_
  refine wl_val (.bool false) (by kernel_rfl) (by kernel_rfl) ?_
  refine wl_load h23 1 rfl (by kernel_rfl) (by kernel_rfl) Tryd.underlying27 rfl (info27p x1 y1) ?_
  refine wl_call (v := .string (encP P1)) h23 (by kernel_rfl) enter14 #[.agg (pr x1 y1)] (by kernel_rfl) (bytes_ex n1 w22 (VV.below h23.old VV.big)) ?_
  intro w24 h25
  refine wl_val (iN .i64 ((encP P1).size)) (by kernel_rfl) (run_len (s := (encP P1)) (by kernel_rfl)) ?_
  refine wl_val (.bool false) (by kernel_rfl) (run_nei (k := .i64) (a := (encP P1).size) (b := 32) (by kernel_rfl) (by kernel_rfl) false (decide_eq_false (not_not_intro (encP_size _)))) ?_
  refine wl_val (.bool false) (by kernel_rfl) (by kernel_rfl) ?_
  refine wl_nil ?_
  refine then_at (F := ⟨(.string s :: .agg (cs l1).toArray :: un :: pt q1 :: .bool false :: pt q8 :: pt q17 :: .bool true :: un :: un :: .bool true :: .bool false :: .agg (cs l1).toArray :: .agg (pr x1 y1) :: .tuple #[.agg (pr P1.x.val ((subP P1.y.val 1))), .bool true] :: .agg (pr x1 y1) :: .string (encP P1) :: .tuple #[.agg (pr P1.x.val ((subP P1.y.val 1))), .bool true] :: .agg (pr P1.x.val ((subP P1.y.val 1))) :: .bool true :: .bool true :: .bool false :: .bool false :: .agg (pr x1 y1) :: .agg (pr P1.x.val ((subP P1.y.val 1))) :: .bool true :: .bool false :: .bool false :: .bool false :: .agg (pr x1 y1) :: .string (encP P1) :: iN .i64 ((encP P1).size) :: .bool false :: .bool false :: List.replicate 21 un).toArray, []⟩) (by kernel_rfl) ?_
  refine wp_cond_false (by kernel_rfl) ?_
  refine wp_skip ?_
  refine then_at (F := ⟨(.string s :: .agg (cs l1).toArray :: un :: pt q1 :: .bool false :: pt q8 :: pt q17 :: .bool true :: un :: un :: .bool true :: .bool false :: .agg (cs l1).toArray :: .agg (pr x1 y1) :: .tuple #[.agg (pr P1.x.val ((subP P1.y.val 1))), .bool true] :: .agg (pr x1 y1) :: .string (encP P1) :: .tuple #[.agg (pr P1.x.val ((subP P1.y.val 1))), .bool true] :: .agg (pr P1.x.val ((subP P1.y.val 1))) :: .bool true :: .bool true :: .bool false :: .bool false :: .agg (pr x1 y1) :: .agg (pr P1.x.val ((subP P1.y.val 1))) :: .bool true :: .bool false :: .bool false :: .bool false :: .agg (pr x1 y1) :: .string (encP P1) :: iN .i64 ((encP P1).size) :: .bool false :: .bool false :: List.replicate 21 un).toArray, []⟩) (by kernel_rfl) ?_
  refine wp_seq ?_
  by_cases hs : s.size = 32
  · rcases of_ex2 s hs with ⟨a, b, p, hp, henc, hc⟩ | hc
    · -- region 7
      refine wl_region ?_
      refine wl_val (.string s) (by kernel_rfl) (by kernel_rfl) ?_
      refine wl_call (v := .tuple #[.agg (pr a b), .bool true]) h25 (by kernel_rfl) enter12 #[.string s] (by kernel_rfl) (hc w24 (VV.below h25.old VV.big)) ?_
      intro w26 h27
      refine wl_val (.tuple #[.agg (pr a b), .bool true]) (by kernel_rfl) (by kernel_rfl) ?_
      refine wl_val (.agg (pr a b)) (by kernel_rfl) (by kernel_rfl) ?_
      refine wl_val (.bool true) (by kernel_rfl) (by kernel_rfl) ?_
      refine wl_make h27 27 (by kernel_rfl) run_alloc27 ?_
      intro q28 w29 h30
      refine wl_fill (c' := pr a b) h30 0 rfl (by kernel_rfl) (by kernel_rfl) (by kernel_rfl) (pr_sz a b 0 0) (info27p a b) (one_pr a b) ?_
      intro w31 (h32 : HA w [(q28, 27, pr a b), (q17, 27, pr P1.x.val ((subP P1.y.val 1))), (q8, 27, pr x1 y1), (q1, 41, (cs l1).toArray)] w31)
      refine wl_val (.bool true) (by kernel_rfl) (by kernel_rfl) ?_
      refine wl_nil ?_
      refine then_at (F := ⟨(.string s :: .agg (cs l1).toArray :: un :: pt q1 :: .bool false :: pt q8 :: pt q17 :: .bool true :: pt q28 :: .bool true :: .bool true :: .bool false :: .agg (cs l1).toArray :: .agg (pr x1 y1) :: .tuple #[.agg (pr P1.x.val ((subP P1.y.val 1))), .bool true] :: .agg (pr x1 y1) :: .string (encP P1) :: .tuple #[.agg (pr P1.x.val ((subP P1.y.val 1))), .bool true] :: .agg (pr P1.x.val ((subP P1.y.val 1))) :: .bool true :: .bool true :: .bool false :: .bool false :: .agg (pr x1 y1) :: .agg (pr P1.x.val ((subP P1.y.val 1))) :: .bool true :: .bool false :: .bool false :: .bool false :: .agg (pr x1 y1) :: .string (encP P1) :: iN .i64 ((encP P1).size) :: .bool false :: .bool false :: .tuple #[.agg (pr a b), .bool true] :: .string s :: .tuple #[.agg (pr a b), .bool true] :: .agg (pr a b) :: .bool true :: List.replicate 16 un).toArray, []⟩) (by kernel_rfl) ?_
      refine wp_seq ?_
      -- region 8
      refine wp_region_sure ⟨(.string s :: .agg (cs l1).toArray :: un :: pt q1 :: .bool true :: pt q8 :: pt q17 :: .bool true :: pt q28 :: .bool true :: .bool true :: .bool false :: .agg (cs l1).toArray :: .agg (pr x1 y1) :: .tuple #[.agg (pr P1.x.val ((subP P1.y.val 1))), .bool true] :: .agg (pr x1 y1) :: .string (encP P1) :: .tuple #[.agg (pr P1.x.val ((subP P1.y.val 1))), .bool true] :: .agg (pr P1.x.val ((subP P1.y.val 1))) :: .bool true :: .bool true :: .bool false :: .bool false :: .agg (pr x1 y1) :: .agg (pr P1.x.val ((subP P1.y.val 1))) :: .bool true :: .bool false :: .bool false :: .bool false :: .agg (pr x1 y1) :: .string (encP P1) :: iN .i64 ((encP P1).size) :: .bool false :: .bool false :: .tuple #[.agg (pr a b), .bool true] :: .string s :: .tuple #[.agg (pr a b), .bool true] :: .agg (pr a b) :: .bool true :: .bool true :: .bool false :: .bool false :: un :: un :: un :: .bool false :: .bool false :: .bool true :: .bool true :: .agg (pr a b) :: .string (encP p) :: .string s :: .bool true :: .bool true :: .bool true :: List.replicate 0 un).toArray, []⟩ (HA w [(q28, 27, pr a b), (q17, 27, pr P1.x.val ((subP P1.y.val 1))), (q8, 27, pr x1 y1), (q1, 41, (cs l1).toArray)]) [.bool true, .bool false, .bool false, undef, undef, undef, .bool false, .bool false, .bool true, .bool true, .agg (pr a b), .string (encP p), .string s, .bool true, .bool true, .bool true, .bool true] (by kernel_rfl) (by kernel_rfl) (by kernel_rfl) (by kernel_rfl) (fun _ _ _ h => h) h32.drew ?_ ?_
      · refine AllSure.cons (OpSure.take (v := .bool true) (by kernel_rfl) (by kernel_rfl) (fun _ _ => (by kernel_rfl))) ?_
        refine AllSure.cons (OpSure.take (v := .bool false) (by kernel_rfl) (by kernel_rfl) (fun _ _ => (by kernel_rfl))) ?_
        refine AllSure.cons (OpSure.take (v := .bool false) (by kernel_rfl) (by kernel_rfl) (fun _ _ => (by kernel_rfl))) ?_
        refine AllSure.cons (OpSure.skip (by kernel_rfl) (by kernel_rfl)) ?_
        refine AllSure.cons (OpSure.skip (by kernel_rfl) (by kernel_rfl)) ?_
        refine AllSure.cons (OpSure.skip (by kernel_rfl) (by kernel_rfl)) ?_
        refine AllSure.cons (OpSure.take (v := .bool false) (by kernel_rfl) (by kernel_rfl) (fun _ _ => (by kernel_rfl))) ?_
        refine AllSure.cons (OpSure.take (v := .bool false) (by kernel_rfl) (by kernel_rfl) (fun _ _ => (by kernel_rfl))) ?_
        refine AllSure.cons (OpSure.take (v := .bool true) (by kernel_rfl) (by kernel_rfl) (fun _ _ => (by kernel_rfl))) ?_
        refine AllSure.cons (OpSure.take (v := .bool true) (by kernel_rfl) (by kernel_rfl) (fun _ _ => (by kernel_rfl))) ?_
        refine AllSure.cons (OpSure.take (v := .agg (pr a b)) (by kernel_rfl) (by kernel_rfl) (fun _ h => run_load_blk (by kernel_rfl) (h.get 0 rfl) Tryd.underlying27 rfl (info27p a b))) ?_
        refine AllSure.cons (sure_call (v := .string (encP p)) (by kernel_rfl) (by kernel_rfl) enter14 HA.keep #[.agg (pr a b)] (by kernel_rfl) (fun w' h' => bytes_ex hp w' (VV.below h'.old VV.big))) ?_
        refine AllSure.cons (OpSure.take (v := .string s) (by kernel_rfl) (by kernel_rfl) (fun _ _ => (by kernel_rfl))) ?_
        refine AllSure.cons (OpSure.take (v := .bool true) (by kernel_rfl) (by kernel_rfl) (fun _ _ => (run_eqs (s := (encP p)) (t := s) (by kernel_rfl) (by kernel_rfl) true (decide_eq_true henc)))) ?_
        refine AllSure.cons (OpSure.take (v := .bool true) (by kernel_rfl) (by kernel_rfl) (fun _ _ => (by kernel_rfl))) ?_
        refine AllSure.cons (OpSure.take (v := .bool true) (by kernel_rfl) (by kernel_rfl) (fun _ _ => (by kernel_rfl))) ?_
        refine AllSure.cons (OpSure.take (v := .bool true) (by kernel_rfl) (by kernel_rfl) (fun _ _ => (by kernel_rfl))) ?_
        exact AllSure.nil
      intro w33 h34
      refine then_at (F := ⟨(.string s :: .agg (cs l1).toArray :: un :: pt q1 :: .bool true :: pt q8 :: pt q17 :: .bool true :: pt q28 :: .bool true :: .bool true :: .bool false :: .agg (cs l1).toArray :: .agg (pr x1 y1) :: .tuple #[.agg (pr P1.x.val ((subP P1.y.val 1))), .bool true] :: .agg (pr x1 y1) :: .string (encP P1) :: .tuple #[.agg (pr P1.x.val ((subP P1.y.val 1))), .bool true] :: .agg (pr P1.x.val ((subP P1.y.val 1))) :: .bool true :: .bool true :: .bool false :: .bool false :: .agg (pr x1 y1) :: .agg (pr P1.x.val ((subP P1.y.val 1))) :: .bool true :: .bool false :: .bool false :: .bool false :: .agg (pr x1 y1) :: .string (encP P1) :: iN .i64 ((encP P1).size) :: .bool false :: .bool false :: .tuple #[.agg (pr a b), .bool true] :: .string s :: .tuple #[.agg (pr a b), .bool true] :: .agg (pr a b) :: .bool true :: .bool true :: .bool false :: .bool false :: un :: un :: un :: .bool false :: .bool false :: .bool true :: .bool true :: .agg (pr a b) :: .string (encP p) :: .string s :: .bool true :: .bool true :: .bool true :: List.replicate 0 un).toArray, []⟩) (by kernel_rfl) ?_
      refine wp_ret ?_
      repeat first | refine then_ret ?_ | refine block_ret ?_
      exact bodyPost_ret (v := .bool true) (by kernel_rfl) rfl ⟨rfl, h34.old⟩
    · -- region 7
      refine wl_region ?_
      refine wl_val (.string s) (by kernel_rfl) (by kernel_rfl) ?_
      refine wl_call (v := .tuple #[.agg (pr 0 0), .bool false]) h25 (by kernel_rfl) enter12 #[.string s] (by kernel_rfl) (hc w24 (VV.below h25.old VV.big)) ?_
      intro w35 h36
      refine wl_val (.tuple #[.agg (pr 0 0), .bool false]) (by kernel_rfl) (by kernel_rfl) ?_
      refine wl_val (.agg (pr 0 0)) (by kernel_rfl) (by kernel_rfl) ?_
      refine wl_val (.bool false) (by kernel_rfl) (by kernel_rfl) ?_
      refine wl_make h36 27 (by kernel_rfl) run_alloc27 ?_
      intro q37 w38 h39
      refine wl_fill (c' := pr 0 0) h39 0 rfl (by kernel_rfl) (by kernel_rfl) (by kernel_rfl) (pr_sz 0 0 0 0) (info27p 0 0) (one_pr 0 0) ?_
      intro w40 (h41 : HA w [(q37, 27, pr 0 0), (q17, 27, pr P1.x.val ((subP P1.y.val 1))), (q8, 27, pr x1 y1), (q1, 41, (cs l1).toArray)] w40)
      refine wl_val (.bool false) (by kernel_rfl) (by kernel_rfl) ?_
      refine wl_nil ?_
      refine then_at (F := ⟨(.string s :: .agg (cs l1).toArray :: un :: pt q1 :: .bool false :: pt q8 :: pt q17 :: .bool true :: pt q37 :: .bool false :: .bool true :: .bool false :: .agg (cs l1).toArray :: .agg (pr x1 y1) :: .tuple #[.agg (pr P1.x.val ((subP P1.y.val 1))), .bool true] :: .agg (pr x1 y1) :: .string (encP P1) :: .tuple #[.agg (pr P1.x.val ((subP P1.y.val 1))), .bool true] :: .agg (pr P1.x.val ((subP P1.y.val 1))) :: .bool true :: .bool true :: .bool false :: .bool false :: .agg (pr x1 y1) :: .agg (pr P1.x.val ((subP P1.y.val 1))) :: .bool true :: .bool false :: .bool false :: .bool false :: .agg (pr x1 y1) :: .string (encP P1) :: iN .i64 ((encP P1).size) :: .bool false :: .bool false :: .tuple #[.agg (pr 0 0), .bool false] :: .string s :: .tuple #[.agg (pr 0 0), .bool false] :: .agg (pr 0 0) :: .bool false :: List.replicate 16 un).toArray, []⟩) (by kernel_rfl) ?_
      refine wp_seq ?_
      -- region 8
      refine wp_region_sure ⟨(.string s :: .agg (cs l1).toArray :: un :: pt q1 :: .bool true :: pt q8 :: pt q17 :: .bool true :: pt q37 :: .bool false :: .bool true :: .bool false :: .agg (cs l1).toArray :: .agg (pr x1 y1) :: .tuple #[.agg (pr P1.x.val ((subP P1.y.val 1))), .bool true] :: .agg (pr x1 y1) :: .string (encP P1) :: .tuple #[.agg (pr P1.x.val ((subP P1.y.val 1))), .bool true] :: .agg (pr P1.x.val ((subP P1.y.val 1))) :: .bool true :: .bool true :: .bool false :: .bool false :: .agg (pr x1 y1) :: .agg (pr P1.x.val ((subP P1.y.val 1))) :: .bool true :: .bool false :: .bool false :: .bool false :: .agg (pr x1 y1) :: .string (encP P1) :: iN .i64 ((encP P1).size) :: .bool false :: .bool false :: .tuple #[.agg (pr 0 0), .bool false] :: .string s :: .tuple #[.agg (pr 0 0), .bool false] :: .agg (pr 0 0) :: .bool false :: .bool false :: .bool true :: .bool true :: .agg (pr 0 0) :: .agg (pr 0 0) :: .bool true :: .bool true :: .bool true :: un :: un :: un :: un :: un :: un :: un :: .bool true :: List.replicate 0 un).toArray, []⟩ (HA w [(q37, 27, pr 0 0), (q17, 27, pr P1.x.val ((subP P1.y.val 1))), (q8, 27, pr x1 y1), (q1, 41, (cs l1).toArray)]) [.bool false, .bool true, .bool true, .agg (pr 0 0), .agg (pr 0 0), .bool true, .bool true, .bool true, undef, undef, undef, undef, undef, undef, undef, .bool true, .bool true] (by kernel_rfl) (by kernel_rfl) (by kernel_rfl) (by kernel_rfl) (fun _ _ _ h => h) h41.drew ?_ ?_
      · refine AllSure.cons (OpSure.take (v := .bool false) (by kernel_rfl) (by kernel_rfl) (fun _ _ => (by kernel_rfl))) ?_
        refine AllSure.cons (OpSure.take (v := .bool true) (by kernel_rfl) (by kernel_rfl) (fun _ _ => (by kernel_rfl))) ?_
        refine AllSure.cons (OpSure.take (v := .bool true) (by kernel_rfl) (by kernel_rfl) (fun _ _ => (by kernel_rfl))) ?_
        refine AllSure.cons (OpSure.take (v := .agg (pr 0 0)) (by kernel_rfl) (by kernel_rfl) (fun _ h => run_load_blk (by kernel_rfl) (h.get 0 rfl) Tryd.underlying27 rfl (info27p 0 0))) ?_
        refine AllSure.cons (sure_call (v := .agg (pr 0 0)) (by kernel_rfl) (by kernel_rfl) enter29 HA.keep #[] (by kernel_rfl) (fun w' h' => None_any w')) ?_
        refine AllSure.cons (sure_call (v := .bool true) (by kernel_rfl) (by kernel_rfl) enter22 HA.keep #[.agg (pr 0 0), .agg (pr 0 0)] (by kernel_rfl) (fun w' h' => same_yes Pn.none Pn.none (rfl) w')) ?_
        refine AllSure.cons (OpSure.take (v := .bool true) (by kernel_rfl) (by kernel_rfl) (fun _ _ => (by kernel_rfl))) ?_
        refine AllSure.cons (OpSure.take (v := .bool true) (by kernel_rfl) (by kernel_rfl) (fun _ _ => (by kernel_rfl))) ?_
        refine AllSure.cons (OpSure.skip (by kernel_rfl) (by kernel_rfl)) ?_
        refine AllSure.cons (OpSure.skip (by kernel_rfl) (by kernel_rfl)) ?_
        refine AllSure.cons (OpSure.skip (by kernel_rfl) (by kernel_rfl)) ?_
        refine AllSure.cons (OpSure.skip (by kernel_rfl) (by kernel_rfl)) ?_
        refine AllSure.cons (OpSure.skip (by kernel_rfl) (by kernel_rfl)) ?_
        refine AllSure.cons (OpSure.skip (by kernel_rfl) (by kernel_rfl)) ?_
        refine AllSure.cons (OpSure.skip (by kernel_rfl) (by kernel_rfl)) ?_
        refine AllSure.cons (OpSure.take (v := .bool true) (by kernel_rfl) (by kernel_rfl) (fun _ _ => (by kernel_rfl))) ?_
        refine AllSure.cons (OpSure.take (v := .bool true) (by kernel_rfl) (by kernel_rfl) (fun _ _ => (by kernel_rfl))) ?_
        exact AllSure.nil
      intro w42 h43
      refine then_at (F := ⟨(.string s :: .agg (cs l1).toArray :: un :: pt q1 :: .bool true :: pt q8 :: pt q17 :: .bool true :: pt q37 :: .bool false :: .bool true :: .bool false :: .agg (cs l1).toArray :: .agg (pr x1 y1) :: .tuple #[.agg (pr P1.x.val ((subP P1.y.val 1))), .bool true] :: .agg (pr x1 y1) :: .string (encP P1) :: .tuple #[.agg (pr P1.x.val ((subP P1.y.val 1))), .bool true] :: .agg (pr P1.x.val ((subP P1.y.val 1))) :: .bool true :: .bool true :: .bool false :: .bool false :: .agg (pr x1 y1) :: .agg (pr P1.x.val ((subP P1.y.val 1))) :: .bool true :: .bool false :: .bool false :: .bool false :: .agg (pr x1 y1) :: .string (encP P1) :: iN .i64 ((encP P1).size) :: .bool false :: .bool false :: .tuple #[.agg (pr 0 0), .bool false] :: .string s :: .tuple #[.agg (pr 0 0), .bool false] :: .agg (pr 0 0) :: .bool false :: .bool false :: .bool true :: .bool true :: .agg (pr 0 0) :: .agg (pr 0 0) :: .bool true :: .bool true :: .bool true :: un :: un :: un :: un :: un :: un :: un :: .bool true :: List.replicate 0 un).toArray, []⟩) (by kernel_rfl) ?_
      refine wp_ret ?_
      repeat first | refine then_ret ?_ | refine block_ret ?_
      exact bodyPost_ret (v := .bool true) (by kernel_rfl) rfl ⟨rfl, h43.old⟩
  · -- region 7
    refine wl_region ?_
    refine wl_val (.string s) (by kernel_rfl) (by kernel_rfl) ?_
    refine wl_call (v := .tuple #[.agg (pr 0 0), .bool false]) h25 (by kernel_rfl) enter12 #[.string s] (by kernel_rfl) (of_no s hs w24 (VV.below h25.old VV.big)) ?_
    intro w44 h45
    refine wl_val (.tuple #[.agg (pr 0 0), .bool false]) (by kernel_rfl) (by kernel_rfl) ?_
    refine wl_val (.agg (pr 0 0)) (by kernel_rfl) (by kernel_rfl) ?_
    refine wl_val (.bool false) (by kernel_rfl) (by kernel_rfl) ?_
    refine wl_make h45 27 (by kernel_rfl) run_alloc27 ?_
    intro q46 w47 h48
    refine wl_fill (c' := pr 0 0) h48 0 rfl (by kernel_rfl) (by kernel_rfl) (by kernel_rfl) (pr_sz 0 0 0 0) (info27p 0 0) (one_pr 0 0) ?_
    intro w49 (h50 : HA w [(q46, 27, pr 0 0), (q17, 27, pr P1.x.val ((subP P1.y.val 1))), (q8, 27, pr x1 y1), (q1, 41, (cs l1).toArray)] w49)
    refine wl_val (.bool false) (by kernel_rfl) (by kernel_rfl) ?_
    refine wl_nil ?_
    refine then_at (F := ⟨(.string s :: .agg (cs l1).toArray :: un :: pt q1 :: .bool false :: pt q8 :: pt q17 :: .bool true :: pt q46 :: .bool false :: .bool true :: .bool false :: .agg (cs l1).toArray :: .agg (pr x1 y1) :: .tuple #[.agg (pr P1.x.val ((subP P1.y.val 1))), .bool true] :: .agg (pr x1 y1) :: .string (encP P1) :: .tuple #[.agg (pr P1.x.val ((subP P1.y.val 1))), .bool true] :: .agg (pr P1.x.val ((subP P1.y.val 1))) :: .bool true :: .bool true :: .bool false :: .bool false :: .agg (pr x1 y1) :: .agg (pr P1.x.val ((subP P1.y.val 1))) :: .bool true :: .bool false :: .bool false :: .bool false :: .agg (pr x1 y1) :: .string (encP P1) :: iN .i64 ((encP P1).size) :: .bool false :: .bool false :: .tuple #[.agg (pr 0 0), .bool false] :: .string s :: .tuple #[.agg (pr 0 0), .bool false] :: .agg (pr 0 0) :: .bool false :: List.replicate 16 un).toArray, []⟩) (by kernel_rfl) ?_
    refine wp_seq ?_
    -- region 8
    refine wp_region_sure ⟨(.string s :: .agg (cs l1).toArray :: un :: pt q1 :: .bool true :: pt q8 :: pt q17 :: .bool true :: pt q46 :: .bool false :: .bool true :: .bool false :: .agg (cs l1).toArray :: .agg (pr x1 y1) :: .tuple #[.agg (pr P1.x.val ((subP P1.y.val 1))), .bool true] :: .agg (pr x1 y1) :: .string (encP P1) :: .tuple #[.agg (pr P1.x.val ((subP P1.y.val 1))), .bool true] :: .agg (pr P1.x.val ((subP P1.y.val 1))) :: .bool true :: .bool true :: .bool false :: .bool false :: .agg (pr x1 y1) :: .agg (pr P1.x.val ((subP P1.y.val 1))) :: .bool true :: .bool false :: .bool false :: .bool false :: .agg (pr x1 y1) :: .string (encP P1) :: iN .i64 ((encP P1).size) :: .bool false :: .bool false :: .tuple #[.agg (pr 0 0), .bool false] :: .string s :: .tuple #[.agg (pr 0 0), .bool false] :: .agg (pr 0 0) :: .bool false :: .bool false :: .bool true :: .bool true :: .agg (pr 0 0) :: .agg (pr 0 0) :: .bool true :: .bool true :: .bool true :: un :: un :: un :: un :: un :: un :: un :: .bool true :: List.replicate 0 un).toArray, []⟩ (HA w [(q46, 27, pr 0 0), (q17, 27, pr P1.x.val ((subP P1.y.val 1))), (q8, 27, pr x1 y1), (q1, 41, (cs l1).toArray)]) [.bool false, .bool true, .bool true, .agg (pr 0 0), .agg (pr 0 0), .bool true, .bool true, .bool true, undef, undef, undef, undef, undef, undef, undef, .bool true, .bool true] (by kernel_rfl) (by kernel_rfl) (by kernel_rfl) (by kernel_rfl) (fun _ _ _ h => h) h50.drew ?_ ?_
    · refine AllSure.cons (OpSure.take (v := .bool false) (by kernel_rfl) (by kernel_rfl) (fun _ _ => (by kernel_rfl))) ?_
      refine AllSure.cons (OpSure.take (v := .bool true) (by kernel_rfl) (by kernel_rfl) (fun _ _ => (by kernel_rfl))) ?_
      refine AllSure.cons (OpSure.take (v := .bool true) (by kernel_rfl) (by kernel_rfl) (fun _ _ => (by kernel_rfl))) ?_
      refine AllSure.cons (OpSure.take (v := .agg (pr 0 0)) (by kernel_rfl) (by kernel_rfl) (fun _ h => run_load_blk (by kernel_rfl) (h.get 0 rfl) Tryd.underlying27 rfl (info27p 0 0))) ?_
      refine AllSure.cons (sure_call (v := .agg (pr 0 0)) (by kernel_rfl) (by kernel_rfl) enter29 HA.keep #[] (by kernel_rfl) (fun w' h' => None_any w')) ?_
      refine AllSure.cons (sure_call (v := .bool true) (by kernel_rfl) (by kernel_rfl) enter22 HA.keep #[.agg (pr 0 0), .agg (pr 0 0)] (by kernel_rfl) (fun w' h' => same_yes Pn.none Pn.none (rfl) w')) ?_
      refine AllSure.cons (OpSure.take (v := .bool true) (by kernel_rfl) (by kernel_rfl) (fun _ _ => (by kernel_rfl))) ?_
      refine AllSure.cons (OpSure.take (v := .bool true) (by kernel_rfl) (by kernel_rfl) (fun _ _ => (by kernel_rfl))) ?_
      refine AllSure.cons (OpSure.skip (by kernel_rfl) (by kernel_rfl)) ?_
      refine AllSure.cons (OpSure.skip (by kernel_rfl) (by kernel_rfl)) ?_
      refine AllSure.cons (OpSure.skip (by kernel_rfl) (by kernel_rfl)) ?_
      refine AllSure.cons (OpSure.skip (by kernel_rfl) (by kernel_rfl)) ?_
      refine AllSure.cons (OpSure.skip (by kernel_rfl) (by kernel_rfl)) ?_
      refine AllSure.cons (OpSure.skip (by kernel_rfl) (by kernel_rfl)) ?_
      refine AllSure.cons (OpSure.skip (by kernel_rfl) (by kernel_rfl)) ?_
      refine AllSure.cons (OpSure.take (v := .bool true) (by kernel_rfl) (by kernel_rfl) (fun _ _ => (by kernel_rfl))) ?_
      refine AllSure.cons (OpSure.take (v := .bool true) (by kernel_rfl) (by kernel_rfl) (fun _ _ => (by kernel_rfl))) ?_
      exact AllSure.nil
    intro w51 h52
    refine then_at (F := ⟨(.string s :: .agg (cs l1).toArray :: un :: pt q1 :: .bool true :: pt q8 :: pt q17 :: .bool true :: pt q46 :: .bool false :: .bool true :: .bool false :: .agg (cs l1).toArray :: .agg (pr x1 y1) :: .tuple #[.agg (pr P1.x.val ((subP P1.y.val 1))), .bool true] :: .agg (pr x1 y1) :: .string (encP P1) :: .tuple #[.agg (pr P1.x.val ((subP P1.y.val 1))), .bool true] :: .agg (pr P1.x.val ((subP P1.y.val 1))) :: .bool true :: .bool true :: .bool false :: .bool false :: .agg (pr x1 y1) :: .agg (pr P1.x.val ((subP P1.y.val 1))) :: .bool true :: .bool false :: .bool false :: .bool false :: .agg (pr x1 y1) :: .string (encP P1) :: iN .i64 ((encP P1).size) :: .bool false :: .bool false :: .tuple #[.agg (pr 0 0), .bool false] :: .string s :: .tuple #[.agg (pr 0 0), .bool false] :: .agg (pr 0 0) :: .bool false :: .bool false :: .bool true :: .bool true :: .agg (pr 0 0) :: .agg (pr 0 0) :: .bool true :: .bool true :: .bool true :: un :: un :: un :: un :: un :: un :: un :: .bool true :: List.replicate 0 un).toArray, []⟩) (by kernel_rfl) ?_
    refine wp_ret ?_
    repeat first | refine then_ret ?_ | refine block_ret ?_
    exact bodyPost_ret (v := .bool true) (by kernel_rfl) rfl ⟨rfl, h52.old⟩
end Go.Proofs.YtpaendmdcdeemaaDoor
