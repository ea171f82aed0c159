/-
  the law of sums of points.
-/
import Derived.Test.YtpaendmdcdeemaaDoorCvX
import Derived.Test.YtpaendmdcdeemaaDoorCuU
namespace Go.Proofs.YtpaendmdcdeemaaDoor
open Go.RowKit Num


set_option linter.unusedVariables false in
set_option maxRecDepth 100000 in
set_option maxHeartbeats 2000000 in
theorem CurveGroup_any (l1 l2 l3 : List UInt8) (hl1 : l1.length = 32) (hl2 : l2.length = 32) (hl3 : l3.length = 32) (w : World) (VV : Vars w) :
    Calls Tryd.prog 6 #[.agg (cs l1).toArray, .agg (cs l2).toArray, .agg (cs l3).toArray] w fun e w' => e = .returned (.bool true) ∧ Below w.heap.size w w' := by
  have H0 := HA.start w
  go_enter Tryd.func6, Tryd.ntmps6
  refine wp_seq ?_
  -- region 0
  refine wl_region ?_
  refine wl_make H0 41 (by kernel_rfl) (run_box41 (c := (cs l1).toArray) (by kernel_rfl)) ?_
  intro q1 w2 h3
  refine wl_make h3 41 (by kernel_rfl) (run_box41 (c := (cs l2).toArray) (by kernel_rfl)) ?_
  intro q4 w5 h6
  refine wl_make h6 41 (by kernel_rfl) (run_box41 (c := (cs l3).toArray) (by kernel_rfl)) ?_
  intro q7 w8 h9
  refine wl_val (.bool false) (by kernel_rfl) (by kernel_rfl) ?_
  refine wl_nil ?_
  refine then_at (F := ⟨(.agg (cs l1).toArray :: .agg (cs l2).toArray :: .agg (cs l3).toArray :: pt q1 :: pt q4 :: pt q7 :: .bool false :: List.replicate 65 un).toArray, []⟩) (by kernel_rfl) ?_
  refine wp_seq ?_
  refine wp_seq ?_
  -- region 1
  refine wl_region ?_
  refine wl_call (v := .bool true) h9 (by kernel_rfl) enter16 #[] (by kernel_rfl) (works_any w8 (VV.below h9.old VV.big)) ?_
  intro w10 h11
  refine wl_val (.bool false) (by kernel_rfl) (by kernel_rfl) ?_
  refine wl_nil ?_
  refine then_at (F := ⟨(.agg (cs l1).toArray :: .agg (cs l2).toArray :: .agg (cs l3).toArray :: pt q1 :: pt q4 :: pt q7 :: .bool false :: un :: un :: un :: .bool true :: .bool false :: List.replicate 60 un).toArray, []⟩) (by kernel_rfl) ?_
  refine wp_cond_false (by kernel_rfl) ?_
  refine wp_skip ?_
  refine then_at (F := ⟨(.agg (cs l1).toArray :: .agg (cs l2).toArray :: .agg (cs l3).toArray :: pt q1 :: pt q4 :: pt q7 :: .bool false :: un :: un :: un :: .bool true :: .bool false :: List.replicate 60 un).toArray, []⟩) (by kernel_rfl) ?_
  refine wp_seq ?_
  -- region 3
  obtain ⟨x1, y1, P1, n1, c1⟩ := point_ex l1 hl1
  obtain ⟨x2, y2, P2, n2, c2⟩ := point_ex l2 hl2
  obtain ⟨x3, y3, P3, n3, c3⟩ := point_ex l3 hl3
  obtain ⟨B12, eB12⟩ : ∃ B, B = w10.heap.size := ⟨_, rfl⟩
  refine wp_region_ghost (fun g : Nat → Nat => (⟨(.agg (cs l1).toArray :: .agg (cs l2).toArray :: .agg (cs l3).toArray :: pt q1 :: pt q4 :: pt q7 :: .bool false :: pt (g 6) :: pt (g 7) :: pt (g 8) :: .bool true :: .bool false :: .agg (cs l1).toArray :: .agg (pr x1 y1) :: .agg (cs l2).toArray :: .agg (pr x2 y2) :: .agg (cs l3).toArray :: .agg (pr x3 y3) :: List.replicate 54 un).toArray, []⟩ : Act)) (GS w [(q7, 41, (cs l3).toArray), (q4, 41, (cs l2).toArray), (q1, 41, (cs l1).toArray)] B12 3 6 9 27 (pr 0 0) (fun j => match j with | 0 => pr x1 y1 | 1 => pr x2 y2 | _ => pr x3 y3)) [.agg (cs l1).toArray, .agg (pr x1 y1), .agg (cs l2).toArray, .agg (pr x2 y2), .agg (cs l3).toArray, .agg (pr x3 y3), .pointer (some ⟨0, 0, none⟩), .pointer (some ⟨0, 0, none⟩), .pointer (some ⟨0, 0, none⟩), undef, undef, undef] (by kernel_rfl) (by kernel_rfl) (by kernel_rfl) (by kernel_rfl) (fun _ _ _ _ h => h) (fun d hd => GS.start h11.drew eB12 (by decide) (fun j _ => by rcases j with _ | _ | j <;> exact (pr_sz _ _ _ _)) (fun j hj => hd j (Nat.lt_of_lt_of_le hj (by decide)))) ?_ ?_
  · refine AllGhost.cons (ghost_load 2 rfl (by decide) (fun _ => by kernel_rfl) (fun _ => by kernel_rfl) (fun _ => by kernel_rfl) Tryd.underlying41 rfl (info41l l1 hl1)) ?_
    refine AllGhost.cons (ghost_call (v := .agg (pr x1 y1)) (by decide) (fun _ => by kernel_rfl) (fun _ => by kernel_rfl) enter28 #[.agg (cs l1).toArray] (fun _ => by kernel_rfl) (fun w' h' => c1 w' (VV.below h'.old VV.big))) ?_
    refine AllGhost.cons (ghost_load 1 rfl (by decide) (fun _ => by kernel_rfl) (fun _ => by kernel_rfl) (fun _ => by kernel_rfl) Tryd.underlying41 rfl (info41l l2 hl2)) ?_
    refine AllGhost.cons (ghost_call (v := .agg (pr x2 y2)) (by decide) (fun _ => by kernel_rfl) (fun _ => by kernel_rfl) enter28 #[.agg (cs l2).toArray] (fun _ => by kernel_rfl) (fun w' h' => c2 w' (VV.below h'.old VV.big))) ?_
    refine AllGhost.cons (ghost_load 0 rfl (by decide) (fun _ => by kernel_rfl) (fun _ => by kernel_rfl) (fun _ => by kernel_rfl) Tryd.underlying41 rfl (info41l l3 hl3)) ?_
    refine AllGhost.cons (ghost_call (v := .agg (pr x3 y3)) (by decide) (fun _ => by kernel_rfl) (fun _ => by kernel_rfl) enter28 #[.agg (cs l3).toArray] (fun _ => by kernel_rfl) (fun w' h' => c3 w' (VV.below h'.old VV.big))) ?_
    refine AllGhost.cons (ghost_make 0 (by decide) rfl (fun _ => by kernel_rfl) (fun _ _ => by kernel_rfl) (fun _ _ => run_alloc27)) ?_
    refine AllGhost.cons (ghost_make 1 (by decide) rfl (fun _ => by kernel_rfl) (fun _ _ => by kernel_rfl) (fun _ _ => run_alloc27)) ?_
    refine AllGhost.cons (ghost_make 2 (by decide) rfl (fun _ => by kernel_rfl) (fun _ _ => by kernel_rfl) (fun _ _ => run_alloc27)) ?_
    refine AllGhost.cons (ghost_fill 0 (by decide) rfl (fun _ => by kernel_rfl) (fun _ => by kernel_rfl) (fun _ => by kernel_rfl) (fun _ => by kernel_rfl) (info27p x1 y1) (one_pr x1 y1) (by kernel_rfl)) ?_
    refine AllGhost.cons (ghost_fill 1 (by decide) rfl (fun _ => by kernel_rfl) (fun _ => by kernel_rfl) (fun _ => by kernel_rfl) (fun _ => by kernel_rfl) (info27p x2 y2) (one_pr x2 y2) (by kernel_rfl)) ?_
    refine AllGhost.cons (ghost_fill 2 (by decide) rfl (fun _ => by kernel_rfl) (fun _ => by kernel_rfl) (fun _ => by kernel_rfl) (fun _ => by kernel_rfl) (info27p x3 y3) (one_pr x3 y3) (by kernel_rfl)) ?_
    exact AllGhost.nil
  intro g w13 g14
  have h15 : HA w [(g 8, 27, pr x3 y3), (g 7, 27, pr x2 y2), (g 6, 27, pr x1 y1), (q7, 41, (cs l3).toArray), (q4, 41, (cs l2).toArray), (q1, 41, (cs l1).toArray)] w13 := g14.three
  clear g14 eB12
  generalize g 6 = q16 at h15 ⊢
  generalize g 7 = q17 at h15 ⊢
  generalize g 8 = q18 at h15 ⊢
  clear g
  refine then_at (F := ⟨(.agg (cs l1).toArray :: .agg (cs l2).toArray :: .agg (cs l3).toArray :: pt q1 :: pt q4 :: pt q7 :: .bool false :: pt q16 :: pt q17 :: pt q18 :: .bool true :: .bool false :: .agg (cs l1).toArray :: .agg (pr x1 y1) :: .agg (cs l2).toArray :: .agg (pr x2 y2) :: .agg (cs l3).toArray :: .agg (pr x3 y3) :: List.replicate 54 un).toArray, []⟩) (by kernel_rfl) ?_
  refine wp_seq ?_
  -- region 4
  obtain ⟨x4, y4, n4, c4⟩ := add_ex n1 n2
  obtain ⟨x5, y5, n5, c5⟩ := add_ex n2 n1
  obtain ⟨x6, y6, n6, c6⟩ := add_ex n4 n3
  obtain ⟨x7, y7, n7, c7⟩ := add_ex n2 n3
  obtain ⟨x8, y8, n8, c8⟩ := add_ex n1 n7
  obtain ⟨x9, y9, n9, c9⟩ := add_ex n1 Pn.none
  obtain ⟨x10, y10, n10, c10⟩ := neg_ex n1
  obtain ⟨x11, y11, n11, c11⟩ := add_ex n1 n10
  obtain ⟨x12, y12, n12, c12⟩ := neg_ex n10
  obtain ⟨x13, y13, n13, c13⟩ := neg_ex n4
  obtain ⟨x14, y14, n14, c14⟩ := neg_ex n2
  obtain ⟨x15, y15, n15, c15⟩ := add_ex n10 n14
  refine wp_region_sure ⟨(.agg (cs l1).toArray :: .agg (cs l2).toArray :: .agg (cs l3).toArray :: pt q1 :: pt q4 :: pt q7 :: .bool true :: pt q16 :: pt q17 :: pt q18 :: .bool true :: .bool false :: .agg (cs l1).toArray :: .agg (pr x1 y1) :: .agg (cs l2).toArray :: .agg (pr x2 y2) :: .agg (cs l3).toArray :: .agg (pr x3 y3) :: .agg (pr x1 y1) :: .agg (pr x2 y2) :: .agg (pr x4 y4) :: .agg (pr x2 y2) :: .agg (pr x1 y1) :: .agg (pr x5 y5) :: .bool true :: .bool true :: .agg (pr x1 y1) :: .agg (pr x2 y2) :: .agg (pr x4 y4) :: .agg (pr x3 y3) :: .agg (pr x6 y6) :: .agg (pr x1 y1) :: .agg (pr x2 y2) :: .agg (pr x3 y3) :: .agg (pr x7 y7) :: .agg (pr x8 y8) :: .bool true :: .bool true :: .bool true :: .agg (pr x1 y1) :: .agg (pr 0 0) :: .agg (pr x9 y9) :: .agg (pr x1 y1) :: .bool true :: .bool true :: .bool true :: .agg (pr x1 y1) :: .agg (pr x1 y1) :: .agg (pr x10 y10) :: .agg (pr x11 y11) :: .agg (pr 0 0) :: .bool true :: .bool true :: .bool true :: .agg (pr x1 y1) :: .agg (pr x10 y10) :: .agg (pr x12 y12) :: .agg (pr x1 y1) :: .bool true :: .bool true :: .bool true :: .agg (pr x1 y1) :: .agg (pr x2 y2) :: .agg (pr x4 y4) :: .agg (pr x13 y13) :: .agg (pr x1 y1) :: .agg (pr x10 y10) :: .agg (pr x2 y2) :: .agg (pr x14 y14) :: .agg (pr x15 y15) :: .bool true :: .bool true :: List.replicate 0 un).toArray, []⟩ (HA w [(q18, 27, pr x3 y3), (q17, 27, pr x2 y2), (q16, 27, pr x1 y1), (q7, 41, (cs l3).toArray), (q4, 41, (cs l2).toArray), (q1, 41, (cs l1).toArray)]) [.agg (pr x1 y1), .agg (pr x2 y2), .agg (pr x4 y4), .agg (pr x2 y2), .agg (pr x1 y1), .agg (pr x5 y5), .bool true, .bool true, .agg (pr x1 y1), .agg (pr x2 y2), .agg (pr x4 y4), .agg (pr x3 y3), .agg (pr x6 y6), .agg (pr x1 y1), .agg (pr x2 y2), .agg (pr x3 y3), .agg (pr x7 y7), .agg (pr x8 y8), .bool true, .bool true, .bool true, .agg (pr x1 y1), .agg (pr 0 0), .agg (pr x9 y9), .agg (pr x1 y1), .bool true, .bool true, .bool true, .agg (pr x1 y1), .agg (pr x1 y1), .agg (pr x10 y10), .agg (pr x11 y11), .agg (pr 0 0), .bool true, .bool true, .bool true, .agg (pr x1 y1), .agg (pr x10 y10), .agg (pr x12 y12), .agg (pr x1 y1), .bool true, .bool true, .bool true, .agg (pr x1 y1), .agg (pr x2 y2), .agg (pr x4 y4), .agg (pr x13 y13), .agg (pr x1 y1), .agg (pr x10 y10), .agg (pr x2 y2), .agg (pr x14 y14), .agg (pr x15 y15), .bool true, .bool true, .bool true] (by kernel_rfl) (by kernel_rfl) (by kernel_rfl) (by kernel_rfl) (fun _ _ _ h => h) h15.drew ?_ ?_
  · refine AllSure.cons (OpSure.take (v := .agg (pr x1 y1)) (by kernel_rfl) (by kernel_rfl) (fun _ h => run_load_blk (by kernel_rfl) (h.get 2 rfl) Tryd.underlying27 rfl (info27p x1 y1))) ?_
    refine AllSure.cons (OpSure.take (v := .agg (pr x2 y2)) (by kernel_rfl) (by kernel_rfl) (fun _ h => run_load_blk (by kernel_rfl) (h.get 1 rfl) Tryd.underlying27 rfl (info27p x2 y2))) ?_
    refine AllSure.cons (sure_call (v := .agg (pr x4 y4)) (by kernel_rfl) (by kernel_rfl) enter18 HA.keep #[.agg (pr x1 y1), .agg (pr x2 y2)] (by kernel_rfl) (fun w' h' => c4 w' (VV.below h'.old VV.big))) ?_
    refine AllSure.cons (OpSure.take (v := .agg (pr x2 y2)) (by kernel_rfl) (by kernel_rfl) (fun _ h => run_load_blk (by kernel_rfl) (h.get 1 rfl) Tryd.underlying27 rfl (info27p x2 y2))) ?_
    refine AllSure.cons (OpSure.take (v := .agg (pr x1 y1)) (by kernel_rfl) (by kernel_rfl) (fun _ h => run_load_blk (by kernel_rfl) (h.get 2 rfl) Tryd.underlying27 rfl (info27p x1 y1))) ?_
    refine AllSure.cons (sure_call (v := .agg (pr x5 y5)) (by kernel_rfl) (by kernel_rfl) enter18 HA.keep #[.agg (pr x2 y2), .agg (pr x1 y1)] (by kernel_rfl) (fun w' h' => c5 w' (VV.below h'.old VV.big))) ?_
    refine AllSure.cons (sure_call (v := .bool true) (by kernel_rfl) (by kernel_rfl) enter22 HA.keep #[.agg (pr x4 y4), .agg (pr x5 y5)] (by kernel_rfl) (fun w' h' => same_yes n4 n5 (aP_comm _ _) w')) ?_
    refine AllSure.cons (OpSure.take (v := .bool true) (by kernel_rfl) (by kernel_rfl) (fun _ _ => (by kernel_rfl))) ?_
    refine AllSure.cons (OpSure.take (v := .agg (pr x1 y1)) (by kernel_rfl) (by kernel_rfl) (fun _ h => run_load_blk (by kernel_rfl) (h.get 2 rfl) Tryd.underlying27 rfl (info27p x1 y1))) ?_
    refine AllSure.cons (OpSure.take (v := .agg (pr x2 y2)) (by kernel_rfl) (by kernel_rfl) (fun _ h => run_load_blk (by kernel_rfl) (h.get 1 rfl) Tryd.underlying27 rfl (info27p x2 y2))) ?_
    refine AllSure.cons (sure_call (v := .agg (pr x4 y4)) (by kernel_rfl) (by kernel_rfl) enter18 HA.keep #[.agg (pr x1 y1), .agg (pr x2 y2)] (by kernel_rfl) (fun w' h' => c4 w' (VV.below h'.old VV.big))) ?_
    refine AllSure.cons (OpSure.take (v := .agg (pr x3 y3)) (by kernel_rfl) (by kernel_rfl) (fun _ h => run_load_blk (by kernel_rfl) (h.get 0 rfl) Tryd.underlying27 rfl (info27p x3 y3))) ?_
    refine AllSure.cons (sure_call (v := .agg (pr x6 y6)) (by kernel_rfl) (by kernel_rfl) enter18 HA.keep #[.agg (pr x4 y4), .agg (pr x3 y3)] (by kernel_rfl) (fun w' h' => c6 w' (VV.below h'.old VV.big))) ?_
    refine AllSure.cons (OpSure.take (v := .agg (pr x1 y1)) (by kernel_rfl) (by kernel_rfl) (fun _ h => run_load_blk (by kernel_rfl) (h.get 2 rfl) Tryd.underlying27 rfl (info27p x1 y1))) ?_
    refine AllSure.cons (OpSure.take (v := .agg (pr x2 y2)) (by kernel_rfl) (by kernel_rfl) (fun _ h => run_load_blk (by kernel_rfl) (h.get 1 rfl) Tryd.underlying27 rfl (info27p x2 y2))) ?_
    refine AllSure.cons (OpSure.take (v := .agg (pr x3 y3)) (by kernel_rfl) (by kernel_rfl) (fun _ h => run_load_blk (by kernel_rfl) (h.get 0 rfl) Tryd.underlying27 rfl (info27p x3 y3))) ?_
    refine AllSure.cons (sure_call (v := .agg (pr x7 y7)) (by kernel_rfl) (by kernel_rfl) enter18 HA.keep #[.agg (pr x2 y2), .agg (pr x3 y3)] (by kernel_rfl) (fun w' h' => c7 w' (VV.below h'.old VV.big))) ?_
    refine AllSure.cons (sure_call (v := .agg (pr x8 y8)) (by kernel_rfl) (by kernel_rfl) enter18 HA.keep #[.agg (pr x1 y1), .agg (pr x7 y7)] (by kernel_rfl) (fun w' h' => c8 w' (VV.below h'.old VV.big))) ?_
    refine AllSure.cons (sure_call (v := .bool true) (by kernel_rfl) (by kernel_rfl) enter22 HA.keep #[.agg (pr x6 y6), .agg (pr x8 y8)] (by kernel_rfl) (fun w' h' => same_yes n6 n8 (aP_assoc _ _ _) w')) ?_
    refine AllSure.cons (OpSure.take (v := .bool true) (by kernel_rfl) (by kernel_rfl) (fun _ _ => (by kernel_rfl))) ?_
    refine AllSure.cons (OpSure.take (v := .bool true) (by kernel_rfl) (by kernel_rfl) (fun _ _ => (by kernel_rfl))) ?_
    refine AllSure.cons (OpSure.take (v := .agg (pr x1 y1)) (by kernel_rfl) (by kernel_rfl) (fun _ h => run_load_blk (by kernel_rfl) (h.get 2 rfl) Tryd.underlying27 rfl (info27p x1 y1))) ?_
    refine AllSure.cons (sure_call (v := .agg (pr 0 0)) (by kernel_rfl) (by kernel_rfl) enter29 HA.keep #[] (by kernel_rfl) (fun w' h' => None_any w')) ?_
    refine AllSure.cons (sure_call (v := .agg (pr x9 y9)) (by kernel_rfl) (by kernel_rfl) enter18 HA.keep #[.agg (pr x1 y1), .agg (pr 0 0)] (by kernel_rfl) (fun w' h' => c9 w' (VV.below h'.old VV.big))) ?_
    refine AllSure.cons (OpSure.take (v := .agg (pr x1 y1)) (by kernel_rfl) (by kernel_rfl) (fun _ h => run_load_blk (by kernel_rfl) (h.get 2 rfl) Tryd.underlying27 rfl (info27p x1 y1))) ?_
    refine AllSure.cons (sure_call (v := .bool true) (by kernel_rfl) (by kernel_rfl) enter22 HA.keep #[.agg (pr x9 y9), .agg (pr x1 y1)] (by kernel_rfl) (fun w' h' => same_yes n9 n1 (aP_none _) w')) ?_
    refine AllSure.cons (OpSure.take (v := .bool true) (by kernel_rfl) (by kernel_rfl) (fun _ _ => (by kernel_rfl))) ?_
    refine AllSure.cons (OpSure.take (v := .bool true) (by kernel_rfl) (by kernel_rfl) (fun _ _ => (by kernel_rfl))) ?_
    refine AllSure.cons (OpSure.take (v := .agg (pr x1 y1)) (by kernel_rfl) (by kernel_rfl) (fun _ h => run_load_blk (by kernel_rfl) (h.get 2 rfl) Tryd.underlying27 rfl (info27p x1 y1))) ?_
    refine AllSure.cons (OpSure.take (v := .agg (pr x1 y1)) (by kernel_rfl) (by kernel_rfl) (fun _ h => run_load_blk (by kernel_rfl) (h.get 2 rfl) Tryd.underlying27 rfl (info27p x1 y1))) ?_
    refine AllSure.cons (sure_call (v := .agg (pr x10 y10)) (by kernel_rfl) (by kernel_rfl) enter20 HA.keep #[.agg (pr x1 y1)] (by kernel_rfl) (fun w' h' => c10 w' (VV.below h'.old VV.big))) ?_
    refine AllSure.cons (sure_call (v := .agg (pr x11 y11)) (by kernel_rfl) (by kernel_rfl) enter18 HA.keep #[.agg (pr x1 y1), .agg (pr x10 y10)] (by kernel_rfl) (fun w' h' => c11 w' (VV.below h'.old VV.big))) ?_
    refine AllSure.cons (sure_call (v := .agg (pr 0 0)) (by kernel_rfl) (by kernel_rfl) enter29 HA.keep #[] (by kernel_rfl) (fun w' h' => None_any w')) ?_
    refine AllSure.cons (sure_call (v := .bool true) (by kernel_rfl) (by kernel_rfl) enter22 HA.keep #[.agg (pr x11 y11), .agg (pr 0 0)] (by kernel_rfl) (fun w' h' => same_yes n11 Pn.none (aP_neg _) w')) ?_
    refine AllSure.cons (OpSure.take (v := .bool true) (by kernel_rfl) (by kernel_rfl) (fun _ _ => (by kernel_rfl))) ?_
    refine AllSure.cons (OpSure.take (v := .bool true) (by kernel_rfl) (by kernel_rfl) (fun _ _ => (by kernel_rfl))) ?_
    refine AllSure.cons (OpSure.take (v := .agg (pr x1 y1)) (by kernel_rfl) (by kernel_rfl) (fun _ h => run_load_blk (by kernel_rfl) (h.get 2 rfl) Tryd.underlying27 rfl (info27p x1 y1))) ?_
    refine AllSure.cons (sure_call (v := .agg (pr x10 y10)) (by kernel_rfl) (by kernel_rfl) enter20 HA.keep #[.agg (pr x1 y1)] (by kernel_rfl) (fun w' h' => c10 w' (VV.below h'.old VV.big))) ?_
    refine AllSure.cons (sure_call (v := .agg (pr x12 y12)) (by kernel_rfl) (by kernel_rfl) enter20 HA.keep #[.agg (pr x10 y10)] (by kernel_rfl) (fun w' h' => c12 w' (VV.below h'.old VV.big))) ?_
    refine AllSure.cons (OpSure.take (v := .agg (pr x1 y1)) (by kernel_rfl) (by kernel_rfl) (fun _ h => run_load_blk (by kernel_rfl) (h.get 2 rfl) Tryd.underlying27 rfl (info27p x1 y1))) ?_
    refine AllSure.cons (sure_call (v := .bool true) (by kernel_rfl) (by kernel_rfl) enter22 HA.keep #[.agg (pr x12 y12), .agg (pr x1 y1)] (by kernel_rfl) (fun w' h' => same_yes n12 n1 (gP_gP _) w')) ?_
    refine AllSure.cons (OpSure.take (v := .bool true) (by kernel_rfl) (by kernel_rfl) (fun _ _ => (by kernel_rfl))) ?_
    refine AllSure.cons (OpSure.take (v := .bool true) (by kernel_rfl) (by kernel_rfl) (fun _ _ => (by kernel_rfl))) ?_
    refine AllSure.cons (OpSure.take (v := .agg (pr x1 y1)) (by kernel_rfl) (by kernel_rfl) (fun _ h => run_load_blk (by kernel_rfl) (h.get 2 rfl) Tryd.underlying27 rfl (info27p x1 y1))) ?_
    refine AllSure.cons (OpSure.take (v := .agg (pr x2 y2)) (by kernel_rfl) (by kernel_rfl) (fun _ h => run_load_blk (by kernel_rfl) (h.get 1 rfl) Tryd.underlying27 rfl (info27p x2 y2))) ?_
    refine AllSure.cons (sure_call (v := .agg (pr x4 y4)) (by kernel_rfl) (by kernel_rfl) enter18 HA.keep #[.agg (pr x1 y1), .agg (pr x2 y2)] (by kernel_rfl) (fun w' h' => c4 w' (VV.below h'.old VV.big))) ?_
    refine AllSure.cons (sure_call (v := .agg (pr x13 y13)) (by kernel_rfl) (by kernel_rfl) enter20 HA.keep #[.agg (pr x4 y4)] (by kernel_rfl) (fun w' h' => c13 w' (VV.below h'.old VV.big))) ?_
    refine AllSure.cons (OpSure.take (v := .agg (pr x1 y1)) (by kernel_rfl) (by kernel_rfl) (fun _ h => run_load_blk (by kernel_rfl) (h.get 2 rfl) Tryd.underlying27 rfl (info27p x1 y1))) ?_
    refine AllSure.cons (sure_call (v := .agg (pr x10 y10)) (by kernel_rfl) (by kernel_rfl) enter20 HA.keep #[.agg (pr x1 y1)] (by kernel_rfl) (fun w' h' => c10 w' (VV.below h'.old VV.big))) ?_
    refine AllSure.cons (OpSure.take (v := .agg (pr x2 y2)) (by kernel_rfl) (by kernel_rfl) (fun _ h => run_load_blk (by kernel_rfl) (h.get 1 rfl) Tryd.underlying27 rfl (info27p x2 y2))) ?_
    refine AllSure.cons (sure_call (v := .agg (pr x14 y14)) (by kernel_rfl) (by kernel_rfl) enter20 HA.keep #[.agg (pr x2 y2)] (by kernel_rfl) (fun w' h' => c14 w' (VV.below h'.old VV.big))) ?_
    refine AllSure.cons (sure_call (v := .agg (pr x15 y15)) (by kernel_rfl) (by kernel_rfl) enter18 HA.keep #[.agg (pr x10 y10), .agg (pr x14 y14)] (by kernel_rfl) (fun w' h' => c15 w' (VV.below h'.old VV.big))) ?_
    refine AllSure.cons (sure_call (v := .bool true) (by kernel_rfl) (by kernel_rfl) enter22 HA.keep #[.agg (pr x13 y13), .agg (pr x15 y15)] (by kernel_rfl) (fun w' h' => same_yes n13 n15 (gP_aP _ _) w')) ?_
    refine AllSure.cons (OpSure.take (v := .bool true) (by kernel_rfl) (by kernel_rfl) (fun _ _ => (by kernel_rfl))) ?_
    refine AllSure.cons (OpSure.take (v := .bool true) (by kernel_rfl) (by kernel_rfl) (fun _ _ => (by kernel_rfl))) ?_
    exact AllSure.nil
  intro w19 h20
  refine then_at (F := ⟨(.agg (cs l1).toArray :: .agg (cs l2).toArray :: .agg (cs l3).toArray :: pt q1 :: pt q4 :: pt q7 :: .bool true :: pt q16 :: pt q17 :: pt q18 :: .bool true :: .bool false :: .agg (cs l1).toArray :: .agg (pr x1 y1) :: .agg (cs l2).toArray :: .agg (pr x2 y2) :: .agg (cs l3).toArray :: .agg (pr x3 y3) :: .agg (pr x1 y1) :: .agg (pr x2 y2) :: .agg (pr x4 y4) :: .agg (pr x2 y2) :: .agg (pr x1 y1) :: .agg (pr x5 y5) :: .bool true :: .bool true :: .agg (pr x1 y1) :: .agg (pr x2 y2) :: .agg (pr x4 y4) :: .agg (pr x3 y3) :: .agg (pr x6 y6) :: .agg (pr x1 y1) :: .agg (pr x2 y2) :: .agg (pr x3 y3) :: .agg (pr x7 y7) :: .agg (pr x8 y8) :: .bool true :: .bool true :: .bool true :: .agg (pr x1 y1) :: .agg (pr 0 0) :: .agg (pr x9 y9) :: .agg (pr x1 y1) :: .bool true :: .bool true :: .bool true :: .agg (pr x1 y1) :: .agg (pr x1 y1) :: .agg (pr x10 y10) :: .agg (pr x11 y11) :: .agg (pr 0 0) :: .bool true :: .bool true :: .bool true :: .agg (pr x1 y1) :: .agg (pr x10 y10) :: .agg (pr x12 y12) :: .agg (pr x1 y1) :: .bool true :: .bool true :: .bool true :: .agg (pr x1 y1) :: .agg (pr x2 y2) :: .agg (pr x4 y4) :: .agg (pr x13 y13) :: .agg (pr x1 y1) :: .agg (pr x10 y10) :: .agg (pr x2 y2) :: .agg (pr x14 y14) :: .agg (pr x15 y15) :: .bool true :: .bool true :: List.replicate 0 un).toArray, []⟩) (by kernel_rfl) ?_
  refine wp_ret ?_
  repeat first | refine then_ret ?_ | refine block_ret ?_
  exact bodyPost_ret (v := .bool true) (by kernel_rfl) rfl ⟨rfl, h20.old⟩
end Go.Proofs.YtpaendmdcdeemaaDoor
