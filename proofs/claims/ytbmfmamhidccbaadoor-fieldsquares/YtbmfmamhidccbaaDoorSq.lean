/-
  FieldSquares: the walk.
-/
import Derived.Test.YtbmfmamhidccbaaDoorLaw
namespace Go.Proofs.YtbmfmamhidccbaaDoor
open Go.RowKit Num

set_option linter.unusedVariables false in
set_option maxRecDepth 100000 in
set_option maxHeartbeats 4000000 in
theorem sq_nil (c0 c1 : Array Value) (a b r : Nat) (hz0 : c0.size = 32) (hz1 : c1.size = 32) (ha : a < P) (hb : b < P) (hr : rootP (mulP a a) = some r) (hr2 : r % 2 = 0) (hrP : r < P) (hR : r = a ∨ r ≠ a ∧ r = negP a) (hA : a = 0) (s : Nat) (rt1 : rootP a = some s) (hss : mulP s s = a) (hsP : s < P) (t : Nat) (rt2 : rootP (addP a a) = some t) (htP : t < P)
    (KA : ∀ w, Vars w → Calls Tryd.prog 20 #[.agg c0] w fun e w' => e = .returned (arr a) ∧ Below w.heap.size w w')
    (KB : ∀ w, Vars w → Calls Tryd.prog 20 #[.agg c1] w fun e w' => e = .returned (arr b) ∧ Below w.heap.size w w') (w : World) (V : Vars w) :
    Calls Tryd.prog 8 #[.agg c0, .agg c1] w fun e w' => e = .returned (.bool true) ∧ Below w.heap.size w w' := by
  have VV := hide V
  have H0 := HA.start w
  clear V
  go_enter Tryd.func8, Tryd.ntmps8
  refine wp_seq ?_
  -- region 0
  refine wl_region ?_
  refine wl_make H0 40 (by kernel_rfl) (run_box40 (c := c0) (by kernel_rfl)) ?_
  intro q1 w2 h3
  refine wl_make h3 40 (by kernel_rfl) (run_box40 (c := c1) (by kernel_rfl)) ?_
  intro q4 w5 h6
  refine wl_val (.bool false) (by kernel_rfl) (by kernel_rfl) ?_
  refine wl_nil ?_
  refine then_at (F := ⟨(.agg c0 :: .agg c1 :: pt q1 :: pt q4 :: .bool false :: List.replicate 120 un).toArray, []⟩) (by kernel_rfl) ?_
  refine wp_seq ?_
  refine wp_seq ?_
  -- region 1
  refine wl_region ?_
  refine wl_call (v := .bool true) h6 (by kernel_rfl) enter19 #[] (by kernel_rfl) (works_any w5 (VV.out.below h6.old VV.out.big)) ?_
  intro w7 h8
  refine wl_val (.bool false) (by kernel_rfl) (by kernel_rfl) ?_
  refine wl_nil ?_
  refine then_at (F := ⟨(.agg c0 :: .agg c1 :: pt q1 :: pt q4 :: .bool false :: un :: un :: un :: un :: un :: un :: un :: un :: un :: un :: un :: un :: un :: .bool true :: .bool false :: List.replicate 105 un).toArray, []⟩) (by kernel_rfl) ?_
  refine wp_cond_false (by kernel_rfl) ?_
  refine wp_skip ?_
  refine then_at (F := ⟨(.agg c0 :: .agg c1 :: pt q1 :: pt q4 :: .bool false :: un :: un :: un :: un :: un :: un :: un :: un :: un :: un :: un :: un :: un :: .bool true :: .bool false :: List.replicate 105 un).toArray, []⟩) (by kernel_rfl) ?_
  refine wp_seq ?_
  -- region 3
  obtain ⟨B9, eB9⟩ : ∃ B, B = w7.heap.size := ⟨_, rfl⟩
  refine wp_region_ghost (fun g : Nat → Nat => (⟨(.agg c0 :: .agg c1 :: pt q1 :: pt q4 :: .bool false :: pt (g 4) :: pt (g 5) :: un :: un :: un :: un :: un :: un :: un :: un :: un :: un :: un :: .bool true :: .bool false :: .agg c0 :: arr a :: .agg c1 :: arr b :: List.replicate 101 un).toArray, []⟩ : Act)) (GS w [(q4, 40, c1), (q1, 40, c0)] B9 2 4 6 26 (el 0) (fun j => el ([a, b].getD j a))) [.agg c0, arr a, .agg c1, arr b, .pointer (some ⟨0, 0, none⟩), .pointer (some ⟨0, 0, none⟩), undef, undef] (by kernel_rfl) (by kernel_rfl) (by kernel_rfl) (by kernel_rfl) (fun _ _ _ _ h => h) (fun d hd => GS.start h8.drew eB9 (by decide) (fun _ _ => rfl) (fun j hj => hd j (Nat.lt_of_lt_of_le hj (by decide)))) ?_ ?_
  · refine AllGhost.cons (ghost_load 1 rfl (by decide) (fun _ => by kernel_rfl) (fun _ => by kernel_rfl) (fun _ => by kernel_rfl) Tryd.underlying40 rfl (by first | (show _ = some c0.size; rw [hz0]; exact info40) | (show _ = some c1.size; rw [hz1]; exact info40))) ?_
    refine AllGhost.cons (ghost_call (v := arr a) (by decide) (fun _ => by kernel_rfl) (fun _ => by kernel_rfl) enter20 #[.agg c0] (fun _ => by kernel_rfl) (fun w' h' => KA w' (VV.out.below h'.old VV.out.big))) ?_
    refine AllGhost.cons (ghost_load 0 rfl (by decide) (fun _ => by kernel_rfl) (fun _ => by kernel_rfl) (fun _ => by kernel_rfl) Tryd.underlying40 rfl (by first | (show _ = some c0.size; rw [hz0]; exact info40) | (show _ = some c1.size; rw [hz1]; exact info40))) ?_
    refine AllGhost.cons (ghost_call (v := arr b) (by decide) (fun _ => by kernel_rfl) (fun _ => by kernel_rfl) enter20 #[.agg c1] (fun _ => by kernel_rfl) (fun w' h' => KB w' (VV.out.below h'.old VV.out.big))) ?_
    refine AllGhost.cons (ghost_make 0 (by decide) rfl (fun _ => by kernel_rfl) (fun _ _ => by kernel_rfl) (fun _ _ => run_alloc26)) ?_
    refine AllGhost.cons (ghost_make 1 (by decide) rfl (fun _ => by kernel_rfl) (fun _ _ => by kernel_rfl) (fun _ _ => run_alloc26)) ?_
    refine AllGhost.cons (ghost_fill 0 (by decide) rfl (fun _ => by kernel_rfl) (fun _ => by kernel_rfl) (fun _ => by kernel_rfl) (fun _ => by kernel_rfl) info26 (one_el _) (by kernel_rfl)) ?_
    refine AllGhost.cons (ghost_fill 1 (by decide) rfl (fun _ => by kernel_rfl) (fun _ => by kernel_rfl) (fun _ => by kernel_rfl) (fun _ => by kernel_rfl) info26 (one_el _) (by kernel_rfl)) ?_
    exact AllGhost.nil
  intro g w10 g11
  have h12 : HA w [(g 5, 26, el b), (g 4, 26, el a), (q4, 40, c1), (q1, 40, c0)] w10 := g11.two
  clear g11 eB9
  generalize g 4 = q13 at h12 ⊢
  generalize g 5 = q14 at h12 ⊢
  clear g
  refine then_at (F := ⟨(.agg c0 :: .agg c1 :: pt q1 :: pt q4 :: .bool false :: pt q13 :: pt q14 :: un :: un :: un :: un :: un :: un :: un :: un :: un :: un :: un :: .bool true :: .bool false :: .agg c0 :: arr a :: .agg c1 :: arr b :: List.replicate 101 un).toArray, []⟩) (by kernel_rfl) ?_
  refine wp_seq ?_
  -- region 4
  refine wl_region ?_
  refine wl_call (v := arr 0) h12 (by kernel_rfl) enter17 #[iN .u32 0] (by kernel_rfl) (Small_any 0 (by decide) w10) ?_
  intro w15 h16
  refine wl_make h16 26 (by kernel_rfl) run_alloc26 ?_
  intro q17 w18 h19
  refine wl_fill (c' := el 0) h19 0 rfl (by kernel_rfl) (by kernel_rfl) (by kernel_rfl) rfl info26 (one_el _) ?_
  intro w20 (h21 : HA w [(q17, 26, el 0), (q14, 26, el b), (q13, 26, el a), (q4, 40, c1), (q1, 40, c0)] w20)
  refine wl_nil ?_
  refine then_at (F := ⟨(.agg c0 :: .agg c1 :: pt q1 :: pt q4 :: .bool false :: pt q13 :: pt q14 :: pt q17 :: un :: un :: un :: un :: un :: un :: un :: un :: un :: un :: .bool true :: .bool false :: .agg c0 :: arr a :: .agg c1 :: arr b :: arr 0 :: List.replicate 100 un).toArray, []⟩) (by kernel_rfl) ?_
  refine wp_seq ?_
  -- region 5
  refine wl_region ?_
  refine wl_load h21 2 rfl (by kernel_rfl) (by kernel_rfl) Tryd.underlying26 rfl info26 ?_
  refine wl_load h21 2 rfl (by kernel_rfl) (by kernel_rfl) Tryd.underlying26 rfl info26 ?_
  refine wl_call (v := arr (mulP a a)) h21 (by kernel_rfl) enter26 #[arr a, arr a] (by kernel_rfl) (Mul_any a a ha ha w20 (VV.out.below h21.old VV.out.big)) ?_
  intro w22 h23
  refine wl_call (v := .tuple #[arr r, .bool true]) h23 (by kernel_rfl) enter31 #[arr (mulP a a)] (by kernel_rfl) (Root_yes rfl (mulP_lt _ _) hr w22 (VV.out.below h23.old VV.out.big)) ?_
  intro w24 h25
  refine wl_val (.tuple #[arr r, .bool true]) (by kernel_rfl) (by kernel_rfl) ?_
  refine wl_val (arr r) (by kernel_rfl) (by kernel_rfl) ?_
  refine wl_val (.bool true) (by kernel_rfl) (by kernel_rfl) ?_
  refine wl_make h25 26 (by kernel_rfl) run_alloc26 ?_
  intro q26 w27 h28
  refine wl_fill (c' := el r) h28 0 rfl (by kernel_rfl) (by kernel_rfl) (by kernel_rfl) rfl info26 (one_el _) ?_
  intro w29 (h30 : HA w [(q26, 26, el r), (q17, 26, el 0), (q14, 26, el b), (q13, 26, el a), (q4, 40, c1), (q1, 40, c0)] w29)
  refine wl_val (.bool true) (by kernel_rfl) (by kernel_rfl) ?_
  refine wl_nil ?_
  refine then_at (F := ⟨(.agg c0 :: .agg c1 :: pt q1 :: pt q4 :: .bool false :: pt q13 :: pt q14 :: pt q17 :: pt q26 :: .bool true :: un :: un :: un :: un :: un :: un :: un :: un :: .bool true :: .bool false :: .agg c0 :: arr a :: .agg c1 :: arr b :: arr 0 :: .tuple #[arr r, .bool true] :: arr a :: arr a :: arr (mulP a a) :: .tuple #[arr r, .bool true] :: arr r :: .bool true :: List.replicate 93 un).toArray, []⟩) (by kernel_rfl) ?_
  refine wp_seq ?_
  refine wp_seq ?_
  -- region 6, two ways
  refine wp_meet (fun A w' => ∃ u : Nat → Value, A = ⟨(.agg c0 :: .agg c1 :: pt q1 :: pt q4 :: .bool false :: pt q13 :: pt q14 :: pt q17 :: pt q26 :: .bool true :: un :: un :: un :: un :: un :: un :: un :: un :: .bool true :: .bool false :: .agg c0 :: arr a :: .agg c1 :: arr b :: arr 0 :: .tuple #[arr r, .bool true] :: arr a :: arr a :: arr (mulP a a) :: .tuple #[arr r, .bool true] :: arr r :: .bool true :: u 32 :: u 33 :: u 34 :: u 35 :: u 36 :: u 37 :: u 38 :: u 39 :: u 40 :: u 41 :: u 42 :: u 43 :: u 44 :: u 45 :: u 46 :: u 47 :: u 48 :: u 49 :: .bool false :: List.replicate 74 un).toArray, []⟩ ∧ HA w [(q26, 26, el r), (q17, 26, el 0), (q14, 26, el b), (q13, 26, el a), (q4, 40, c1), (q1, 40, c0)] w') ?_ ?_
  · rcases hR with hR | ⟨hR, hR'⟩
    · -- region 6
      refine wp_region_sure ⟨(.agg c0 :: .agg c1 :: pt q1 :: pt q4 :: .bool false :: pt q13 :: pt q14 :: pt q17 :: pt q26 :: .bool true :: un :: un :: un :: un :: un :: un :: un :: un :: .bool true :: .bool false :: .agg c0 :: arr a :: .agg c1 :: arr b :: arr 0 :: .tuple #[arr r, .bool true] :: arr a :: arr a :: arr (mulP a a) :: .tuple #[arr r, .bool true] :: arr r :: .bool true :: .bool true :: .bool false :: .bool false :: arr r :: .bool false :: .bool false :: .bool false :: arr r :: arr a :: .bool true :: .bool false :: .bool false :: un :: un :: un :: un :: un :: .bool false :: .bool false :: List.replicate 74 un).toArray, []⟩ (HA w [(q26, 26, el r), (q17, 26, el 0), (q14, 26, el b), (q13, 26, el a), (q4, 40, c1), (q1, 40, c0)]) [.bool true, .bool false, .bool false, arr r, .bool false, .bool false, .bool false, arr r, arr a, .bool true, .bool false, .bool false, undef, undef, undef, undef, undef, .bool false, .bool false] (by kernel_rfl) (by kernel_rfl) (by kernel_rfl) (by kernel_rfl) (fun _ _ _ h => h) h30.drew ?_ ?_
      · refine AllSure.cons (OpSure.take (v := .bool true) (by kernel_rfl) (by kernel_rfl) (fun _ _ => (by kernel_rfl))) ?_
        refine AllSure.cons (OpSure.take (v := .bool false) (by kernel_rfl) (by kernel_rfl) (fun _ _ => (by kernel_rfl))) ?_
        refine AllSure.cons (OpSure.take (v := .bool false) (by kernel_rfl) (by kernel_rfl) (fun _ _ => (by kernel_rfl))) ?_
        refine AllSure.cons (OpSure.take (v := arr r) (by kernel_rfl) (by kernel_rfl) (fun _ h => run_load_blk (by kernel_rfl) (h.get 0 rfl) Tryd.underlying26 rfl info26)) ?_
        refine AllSure.cons (sure_call (v := .bool false) (by kernel_rfl) (by kernel_rfl) enter15 HA.keep #[arr r] (by kernel_rfl) (fun w' h' => Odd_no r hr2 w')) ?_
        refine AllSure.cons (OpSure.take (v := .bool false) (by kernel_rfl) (by kernel_rfl) (fun _ _ => (by kernel_rfl))) ?_
        refine AllSure.cons (OpSure.take (v := .bool false) (by kernel_rfl) (by kernel_rfl) (fun _ _ => (by kernel_rfl))) ?_
        refine AllSure.cons (OpSure.take (v := arr r) (by kernel_rfl) (by kernel_rfl) (fun _ h => run_load_blk (by kernel_rfl) (h.get 0 rfl) Tryd.underlying26 rfl info26)) ?_
        refine AllSure.cons (OpSure.take (v := arr a) (by kernel_rfl) (by kernel_rfl) (fun _ h => run_load_blk (by kernel_rfl) (h.get 3 rfl) Tryd.underlying26 rfl info26)) ?_
        refine AllSure.cons (sure_call (v := .bool true) (by kernel_rfl) (by kernel_rfl) enter30 HA.keep #[arr r, arr a] (by kernel_rfl) (fun w' h' => Same_yes r a hrP ha hR w')) ?_
        refine AllSure.cons (OpSure.take (v := .bool false) (by kernel_rfl) (by kernel_rfl) (fun _ _ => (by kernel_rfl))) ?_
        refine AllSure.cons (OpSure.take (v := .bool false) (by kernel_rfl) (by kernel_rfl) (fun _ _ => (by kernel_rfl))) ?_
        refine AllSure.cons (OpSure.skip (by kernel_rfl) (by kernel_rfl)) ?_
        refine AllSure.cons (OpSure.skip (by kernel_rfl) (by kernel_rfl)) ?_
        refine AllSure.cons (OpSure.skip (by kernel_rfl) (by kernel_rfl)) ?_
        refine AllSure.cons (OpSure.skip (by kernel_rfl) (by kernel_rfl)) ?_
        refine AllSure.cons (OpSure.skip (by kernel_rfl) (by kernel_rfl)) ?_
        refine AllSure.cons (OpSure.take (v := .bool false) (by kernel_rfl) (by kernel_rfl) (fun _ _ => (by kernel_rfl))) ?_
        refine AllSure.cons (OpSure.take (v := .bool false) (by kernel_rfl) (by kernel_rfl) (fun _ _ => (by kernel_rfl))) ?_
        exact AllSure.nil
      intro w31 h32
      exact then_I ⟨fun i => ([(32, .bool true), (33, .bool false), (34, .bool false), (35, arr r), (36, .bool false), (37, .bool false), (38, .bool false), (39, arr r), (40, arr a), (41, .bool true), (42, .bool false), (43, .bool false), (44, undef), (45, undef), (46, undef), (47, undef), (48, undef), (49, .bool false)].find? (·.1 == i)).elim undef (·.2), by kernel_rfl, h32⟩
    · -- region 6
      refine wp_region_sure ⟨(.agg c0 :: .agg c1 :: pt q1 :: pt q4 :: .bool false :: pt q13 :: pt q14 :: pt q17 :: pt q26 :: .bool true :: un :: un :: un :: un :: un :: un :: un :: un :: .bool true :: .bool false :: .agg c0 :: arr a :: .agg c1 :: arr b :: arr 0 :: .tuple #[arr r, .bool true] :: arr a :: arr a :: arr (mulP a a) :: .tuple #[arr r, .bool true] :: arr r :: .bool true :: .bool true :: .bool false :: .bool false :: arr r :: .bool false :: .bool false :: .bool false :: arr r :: arr a :: .bool false :: .bool true :: .bool true :: arr r :: arr a :: arr (negP a) :: .bool true :: .bool false :: .bool false :: .bool false :: List.replicate 74 un).toArray, []⟩ (HA w [(q26, 26, el r), (q17, 26, el 0), (q14, 26, el b), (q13, 26, el a), (q4, 40, c1), (q1, 40, c0)]) [.bool true, .bool false, .bool false, arr r, .bool false, .bool false, .bool false, arr r, arr a, .bool false, .bool true, .bool true, arr r, arr a, arr (negP a), .bool true, .bool false, .bool false, .bool false] (by kernel_rfl) (by kernel_rfl) (by kernel_rfl) (by kernel_rfl) (fun _ _ _ h => h) h30.drew ?_ ?_
      · refine AllSure.cons (OpSure.take (v := .bool true) (by kernel_rfl) (by kernel_rfl) (fun _ _ => (by kernel_rfl))) ?_
        refine AllSure.cons (OpSure.take (v := .bool false) (by kernel_rfl) (by kernel_rfl) (fun _ _ => (by kernel_rfl))) ?_
        refine AllSure.cons (OpSure.take (v := .bool false) (by kernel_rfl) (by kernel_rfl) (fun _ _ => (by kernel_rfl))) ?_
        refine AllSure.cons (OpSure.take (v := arr r) (by kernel_rfl) (by kernel_rfl) (fun _ h => run_load_blk (by kernel_rfl) (h.get 0 rfl) Tryd.underlying26 rfl info26)) ?_
        refine AllSure.cons (sure_call (v := .bool false) (by kernel_rfl) (by kernel_rfl) enter15 HA.keep #[arr r] (by kernel_rfl) (fun w' h' => Odd_no r hr2 w')) ?_
        refine AllSure.cons (OpSure.take (v := .bool false) (by kernel_rfl) (by kernel_rfl) (fun _ _ => (by kernel_rfl))) ?_
        refine AllSure.cons (OpSure.take (v := .bool false) (by kernel_rfl) (by kernel_rfl) (fun _ _ => (by kernel_rfl))) ?_
        refine AllSure.cons (OpSure.take (v := arr r) (by kernel_rfl) (by kernel_rfl) (fun _ h => run_load_blk (by kernel_rfl) (h.get 0 rfl) Tryd.underlying26 rfl info26)) ?_
        refine AllSure.cons (OpSure.take (v := arr a) (by kernel_rfl) (by kernel_rfl) (fun _ h => run_load_blk (by kernel_rfl) (h.get 3 rfl) Tryd.underlying26 rfl info26)) ?_
        refine AllSure.cons (sure_call (v := .bool false) (by kernel_rfl) (by kernel_rfl) enter30 HA.keep #[arr r, arr a] (by kernel_rfl) (fun w' h' => Same_no r a hrP ha hR w')) ?_
        refine AllSure.cons (OpSure.take (v := .bool true) (by kernel_rfl) (by kernel_rfl) (fun _ _ => (by kernel_rfl))) ?_
        refine AllSure.cons (OpSure.take (v := .bool true) (by kernel_rfl) (by kernel_rfl) (fun _ _ => (by kernel_rfl))) ?_
        refine AllSure.cons (OpSure.take (v := arr r) (by kernel_rfl) (by kernel_rfl) (fun _ h => run_load_blk (by kernel_rfl) (h.get 0 rfl) Tryd.underlying26 rfl info26)) ?_
        refine AllSure.cons (OpSure.take (v := arr a) (by kernel_rfl) (by kernel_rfl) (fun _ h => run_load_blk (by kernel_rfl) (h.get 3 rfl) Tryd.underlying26 rfl info26)) ?_
        refine AllSure.cons (sure_call (v := arr (negP a)) (by kernel_rfl) (by kernel_rfl) enter28 HA.keep #[arr a] (by kernel_rfl) (fun w' h' => Neg_any a ha w' (VV.out.below h'.old VV.out.big))) ?_
        refine AllSure.cons (sure_call (v := .bool true) (by kernel_rfl) (by kernel_rfl) enter30 HA.keep #[arr r, arr (negP a)] (by kernel_rfl) (fun w' h' => Same_yes r (negP a) hrP (negP_lt _) hR' w')) ?_
        refine AllSure.cons (OpSure.take (v := .bool false) (by kernel_rfl) (by kernel_rfl) (fun _ _ => (by kernel_rfl))) ?_
        refine AllSure.cons (OpSure.take (v := .bool false) (by kernel_rfl) (by kernel_rfl) (fun _ _ => (by kernel_rfl))) ?_
        refine AllSure.cons (OpSure.take (v := .bool false) (by kernel_rfl) (by kernel_rfl) (fun _ _ => (by kernel_rfl))) ?_
        exact AllSure.nil
      intro w33 h34
      exact then_I ⟨fun i => ([(32, .bool true), (33, .bool false), (34, .bool false), (35, arr r), (36, .bool false), (37, .bool false), (38, .bool false), (39, arr r), (40, arr a), (41, .bool false), (42, .bool true), (43, .bool true), (44, arr r), (45, arr a), (46, arr (negP a)), (47, .bool true), (48, .bool false), (49, .bool false)].find? (·.1 == i)).elim undef (·.2), by kernel_rfl, h34⟩
  rintro _ w35 ⟨u, rfl, h36⟩
  refine wp_cond_false (by kernel_rfl) ?_
  refine wp_skip ?_
  refine then_at (F := ⟨(.agg c0 :: .agg c1 :: pt q1 :: pt q4 :: .bool false :: pt q13 :: pt q14 :: pt q17 :: pt q26 :: .bool true :: un :: un :: un :: un :: un :: un :: un :: un :: .bool true :: .bool false :: .agg c0 :: arr a :: .agg c1 :: arr b :: arr 0 :: .tuple #[arr r, .bool true] :: arr a :: arr a :: arr (mulP a a) :: .tuple #[arr r, .bool true] :: arr r :: .bool true :: u 32 :: u 33 :: u 34 :: u 35 :: u 36 :: u 37 :: u 38 :: u 39 :: u 40 :: u 41 :: u 42 :: u 43 :: u 44 :: u 45 :: u 46 :: u 47 :: u 48 :: u 49 :: .bool false :: List.replicate 74 un).toArray, []⟩) (by kernel_rfl) ?_
  refine wp_seq ?_
  -- region 8
  refine wl_region ?_
  refine wl_load h36 3 rfl (by kernel_rfl) (by kernel_rfl) Tryd.underlying26 rfl info26 ?_
  refine wl_call (v := .tuple #[arr s, .bool true]) h36 (by kernel_rfl) enter31 #[arr a] (by kernel_rfl) (Root_yes rfl ha rt1 w35 (VV.out.below h36.old VV.out.big)) ?_
  intro w37 h38
  refine wl_val (.tuple #[arr s, .bool true]) (by kernel_rfl) (by kernel_rfl) ?_
  refine wl_val (arr s) (by kernel_rfl) (by kernel_rfl) ?_
  refine wl_val (.bool true) (by kernel_rfl) (by kernel_rfl) ?_
  refine wl_make h38 26 (by kernel_rfl) run_alloc26 ?_
  intro q39 w40 h41
  refine wl_fill (c' := el s) h41 0 rfl (by kernel_rfl) (by kernel_rfl) (by kernel_rfl) rfl info26 (one_el _) ?_
  intro w42 (h43 : HA w [(q39, 26, el s), (q26, 26, el r), (q17, 26, el 0), (q14, 26, el b), (q13, 26, el a), (q4, 40, c1), (q1, 40, c0)] w42)
  refine wl_val (.bool true) (by kernel_rfl) (by kernel_rfl) ?_
  refine wl_nil ?_
  refine then_at (F := ⟨(.agg c0 :: .agg c1 :: pt q1 :: pt q4 :: .bool false :: pt q13 :: pt q14 :: pt q17 :: pt q26 :: .bool true :: pt q39 :: .bool true :: un :: un :: un :: un :: un :: un :: .bool true :: .bool false :: .agg c0 :: arr a :: .agg c1 :: arr b :: arr 0 :: .tuple #[arr r, .bool true] :: arr a :: arr a :: arr (mulP a a) :: .tuple #[arr r, .bool true] :: arr r :: .bool true :: u 32 :: u 33 :: u 34 :: u 35 :: u 36 :: u 37 :: u 38 :: u 39 :: u 40 :: u 41 :: u 42 :: u 43 :: u 44 :: u 45 :: u 46 :: u 47 :: u 48 :: u 49 :: .bool false :: .tuple #[arr s, .bool true] :: arr a :: .tuple #[arr s, .bool true] :: arr s :: .bool true :: List.replicate 69 un).toArray, []⟩) (by kernel_rfl) ?_
  refine wp_seq ?_
  -- region 9
  refine wl_region ?_
  refine wl_load h43 4 rfl (by kernel_rfl) (by kernel_rfl) Tryd.underlying26 rfl info26 ?_
  refine wl_load h43 4 rfl (by kernel_rfl) (by kernel_rfl) Tryd.underlying26 rfl info26 ?_
  refine wl_call (v := arr (addP a a)) h43 (by kernel_rfl) enter22 #[arr a, arr a] (by kernel_rfl) (Add_any a a ha ha w42 (VV.out.below h43.old VV.out.big)) ?_
  intro w44 h45
  refine wl_call (v := .tuple #[arr t, .bool true]) h45 (by kernel_rfl) enter31 #[arr (addP a a)] (by kernel_rfl) (Root_yes rfl (addP_lt _ _) rt2 w44 (VV.out.below h45.old VV.out.big)) ?_
  intro w46 h47
  refine wl_val (.tuple #[arr t, .bool true]) (by kernel_rfl) (by kernel_rfl) ?_
  refine wl_val (arr t) (by kernel_rfl) (by kernel_rfl) ?_
  refine wl_val (.bool true) (by kernel_rfl) (by kernel_rfl) ?_
  refine wl_make h47 26 (by kernel_rfl) run_alloc26 ?_
  intro q48 w49 h50
  refine wl_fill (c' := el t) h50 0 rfl (by kernel_rfl) (by kernel_rfl) (by kernel_rfl) rfl info26 (one_el _) ?_
  intro w51 (h52 : HA w [(q48, 26, el t), (q39, 26, el s), (q26, 26, el r), (q17, 26, el 0), (q14, 26, el b), (q13, 26, el a), (q4, 40, c1), (q1, 40, c0)] w51)
  refine wl_val (.bool true) (by kernel_rfl) (by kernel_rfl) ?_
  refine wl_nil ?_
  refine then_at (F := ⟨(.agg c0 :: .agg c1 :: pt q1 :: pt q4 :: .bool false :: pt q13 :: pt q14 :: pt q17 :: pt q26 :: .bool true :: pt q39 :: .bool true :: pt q48 :: .bool true :: un :: un :: un :: un :: .bool true :: .bool false :: .agg c0 :: arr a :: .agg c1 :: arr b :: arr 0 :: .tuple #[arr r, .bool true] :: arr a :: arr a :: arr (mulP a a) :: .tuple #[arr r, .bool true] :: arr r :: .bool true :: u 32 :: u 33 :: u 34 :: u 35 :: u 36 :: u 37 :: u 38 :: u 39 :: u 40 :: u 41 :: u 42 :: u 43 :: u 44 :: u 45 :: u 46 :: u 47 :: u 48 :: u 49 :: .bool false :: .tuple #[arr s, .bool true] :: arr a :: .tuple #[arr s, .bool true] :: arr s :: .bool true :: .tuple #[arr t, .bool true] :: arr a :: arr a :: arr (addP a a) :: .tuple #[arr t, .bool true] :: arr t :: .bool true :: List.replicate 62 un).toArray, []⟩) (by kernel_rfl) ?_
  refine wp_seq ?_
  refine wp_seq ?_
  -- region 10
  refine wp_region_sure ⟨(.agg c0 :: .agg c1 :: pt q1 :: pt q4 :: .bool false :: pt q13 :: pt q14 :: pt q17 :: pt q26 :: .bool true :: pt q39 :: .bool true :: pt q48 :: .bool true :: un :: un :: un :: un :: .bool true :: .bool false :: .agg c0 :: arr a :: .agg c1 :: arr b :: arr 0 :: .tuple #[arr r, .bool true] :: arr a :: arr a :: arr (mulP a a) :: .tuple #[arr r, .bool true] :: arr r :: .bool true :: u 32 :: u 33 :: u 34 :: u 35 :: u 36 :: u 37 :: u 38 :: u 39 :: u 40 :: u 41 :: u 42 :: u 43 :: u 44 :: u 45 :: u 46 :: u 47 :: u 48 :: u 49 :: .bool false :: .tuple #[arr s, .bool true] :: arr a :: .tuple #[arr s, .bool true] :: arr s :: .bool true :: .tuple #[arr t, .bool true] :: arr a :: arr a :: arr (addP a a) :: .tuple #[arr t, .bool true] :: arr t :: .bool true :: .bool true :: .bool true :: arr s :: arr s :: arr (mulP s s) :: arr a :: .bool true :: .bool false :: .bool false :: .bool false :: .bool true :: .bool false :: .bool false :: un :: un :: un :: un :: .bool false :: .bool false :: List.replicate 43 un).toArray, []⟩ (HA w [(q48, 26, el t), (q39, 26, el s), (q26, 26, el r), (q17, 26, el 0), (q14, 26, el b), (q13, 26, el a), (q4, 40, c1), (q1, 40, c0)]) [.bool true, .bool true, arr s, arr s, arr (mulP s s), arr a, .bool true, .bool false, .bool false, .bool false, .bool true, .bool false, .bool false, undef, undef, undef, undef, .bool false, .bool false] (by kernel_rfl) (by kernel_rfl) (by kernel_rfl) (by kernel_rfl) (fun _ _ _ h => h) h52.drew ?_ ?_
  · refine AllSure.cons (OpSure.take (v := .bool true) (by kernel_rfl) (by kernel_rfl) (fun _ _ => (by kernel_rfl))) ?_
    refine AllSure.cons (OpSure.take (v := .bool true) (by kernel_rfl) (by kernel_rfl) (fun _ _ => (by kernel_rfl))) ?_
    refine AllSure.cons (OpSure.take (v := arr s) (by kernel_rfl) (by kernel_rfl) (fun _ h => run_load_blk (by kernel_rfl) (h.get 1 rfl) Tryd.underlying26 rfl info26)) ?_
    refine AllSure.cons (OpSure.take (v := arr s) (by kernel_rfl) (by kernel_rfl) (fun _ h => run_load_blk (by kernel_rfl) (h.get 1 rfl) Tryd.underlying26 rfl info26)) ?_
    refine AllSure.cons (sure_call (v := arr (mulP s s)) (by kernel_rfl) (by kernel_rfl) enter26 HA.keep #[arr s, arr s] (by kernel_rfl) (fun w' h' => Mul_any s s hsP hsP w' (VV.out.below h'.old VV.out.big))) ?_
    refine AllSure.cons (OpSure.take (v := arr a) (by kernel_rfl) (by kernel_rfl) (fun _ h => run_load_blk (by kernel_rfl) (h.get 5 rfl) Tryd.underlying26 rfl info26)) ?_
    refine AllSure.cons (sure_call (v := .bool true) (by kernel_rfl) (by kernel_rfl) enter30 HA.keep #[arr (mulP s s), arr a] (by kernel_rfl) (fun w' h' => Same_yes (mulP s s) a (mulP_lt _ _) ha hss w')) ?_
    refine AllSure.cons (OpSure.take (v := .bool false) (by kernel_rfl) (by kernel_rfl) (fun _ _ => (by kernel_rfl))) ?_
    refine AllSure.cons (OpSure.take (v := .bool false) (by kernel_rfl) (by kernel_rfl) (fun _ _ => (by kernel_rfl))) ?_
    refine AllSure.cons (OpSure.take (v := .bool false) (by kernel_rfl) (by kernel_rfl) (fun _ _ => (by kernel_rfl))) ?_
    refine AllSure.cons (OpSure.take (v := .bool true) (by kernel_rfl) (by kernel_rfl) (fun _ _ => (by kernel_rfl))) ?_
    refine AllSure.cons (OpSure.take (v := .bool false) (by kernel_rfl) (by kernel_rfl) (fun _ _ => (by kernel_rfl))) ?_
    refine AllSure.cons (OpSure.take (v := .bool false) (by kernel_rfl) (by kernel_rfl) (fun _ _ => (by kernel_rfl))) ?_
    refine AllSure.cons (OpSure.skip (by kernel_rfl) (by kernel_rfl)) ?_
    refine AllSure.cons (OpSure.skip (by kernel_rfl) (by kernel_rfl)) ?_
    refine AllSure.cons (OpSure.skip (by kernel_rfl) (by kernel_rfl)) ?_
    refine AllSure.cons (OpSure.skip (by kernel_rfl) (by kernel_rfl)) ?_
    refine AllSure.cons (OpSure.take (v := .bool false) (by kernel_rfl) (by kernel_rfl) (fun _ _ => (by kernel_rfl))) ?_
    refine AllSure.cons (OpSure.take (v := .bool false) (by kernel_rfl) (by kernel_rfl) (fun _ _ => (by kernel_rfl))) ?_
    exact AllSure.nil
  intro w53 h54
  refine then_at (F := ⟨(.agg c0 :: .agg c1 :: pt q1 :: pt q4 :: .bool false :: pt q13 :: pt q14 :: pt q17 :: pt q26 :: .bool true :: pt q39 :: .bool true :: pt q48 :: .bool true :: un :: un :: un :: un :: .bool true :: .bool false :: .agg c0 :: arr a :: .agg c1 :: arr b :: arr 0 :: .tuple #[arr r, .bool true] :: arr a :: arr a :: arr (mulP a a) :: .tuple #[arr r, .bool true] :: arr r :: .bool true :: u 32 :: u 33 :: u 34 :: u 35 :: u 36 :: u 37 :: u 38 :: u 39 :: u 40 :: u 41 :: u 42 :: u 43 :: u 44 :: u 45 :: u 46 :: u 47 :: u 48 :: u 49 :: .bool false :: .tuple #[arr s, .bool true] :: arr a :: .tuple #[arr s, .bool true] :: arr s :: .bool true :: .tuple #[arr t, .bool true] :: arr a :: arr a :: arr (addP a a) :: .tuple #[arr t, .bool true] :: arr t :: .bool true :: .bool true :: .bool true :: arr s :: arr s :: arr (mulP s s) :: arr a :: .bool true :: .bool false :: .bool false :: .bool false :: .bool true :: .bool false :: .bool false :: un :: un :: un :: un :: .bool false :: .bool false :: List.replicate 43 un).toArray, []⟩) (by kernel_rfl) ?_
  refine wp_cond_false (by kernel_rfl) ?_
  refine wp_skip ?_
  refine then_at (F := ⟨(.agg c0 :: .agg c1 :: pt q1 :: pt q4 :: .bool false :: pt q13 :: pt q14 :: pt q17 :: pt q26 :: .bool true :: pt q39 :: .bool true :: pt q48 :: .bool true :: un :: un :: un :: un :: .bool true :: .bool false :: .agg c0 :: arr a :: .agg c1 :: arr b :: arr 0 :: .tuple #[arr r, .bool true] :: arr a :: arr a :: arr (mulP a a) :: .tuple #[arr r, .bool true] :: arr r :: .bool true :: u 32 :: u 33 :: u 34 :: u 35 :: u 36 :: u 37 :: u 38 :: u 39 :: u 40 :: u 41 :: u 42 :: u 43 :: u 44 :: u 45 :: u 46 :: u 47 :: u 48 :: u 49 :: .bool false :: .tuple #[arr s, .bool true] :: arr a :: .tuple #[arr s, .bool true] :: arr s :: .bool true :: .tuple #[arr t, .bool true] :: arr a :: arr a :: arr (addP a a) :: .tuple #[arr t, .bool true] :: arr t :: .bool true :: .bool true :: .bool true :: arr s :: arr s :: arr (mulP s s) :: arr a :: .bool true :: .bool false :: .bool false :: .bool false :: .bool true :: .bool false :: .bool false :: un :: un :: un :: un :: .bool false :: .bool false :: List.replicate 43 un).toArray, []⟩) (by kernel_rfl) ?_
  refine wp_seq ?_
  refine wp_seq ?_
  -- region 12
  refine wl_region ?_
  refine wl_load h54 5 rfl (by kernel_rfl) (by kernel_rfl) Tryd.underlying26 rfl info26 ?_
  refine wl_load h54 3 rfl (by kernel_rfl) (by kernel_rfl) Tryd.underlying26 rfl info26 ?_
  refine wl_call (v := .bool true) h54 (by kernel_rfl) enter30 #[arr a, arr 0] (by kernel_rfl) (Same_yes a 0 ha (by decide) hA w53) ?_
  intro w55 h56
  refine wl_val (.bool true) (by kernel_rfl) (by kernel_rfl) ?_
  refine wl_skip (by kernel_rfl) ?_
  refine wl_skip (by kernel_rfl) ?_
  refine wl_skip (by kernel_rfl) ?_
  refine wl_val (.bool true) (by kernel_rfl) (by kernel_rfl) ?_
  refine wl_nil ?_
  refine then_at (F := ⟨(.agg c0 :: .agg c1 :: pt q1 :: pt q4 :: .bool false :: pt q13 :: pt q14 :: pt q17 :: pt q26 :: .bool true :: pt q39 :: .bool true :: pt q48 :: .bool true :: un :: un :: un :: un :: .bool true :: .bool false :: .agg c0 :: arr a :: .agg c1 :: arr b :: arr 0 :: .tuple #[arr r, .bool true] :: arr a :: arr a :: arr (mulP a a) :: .tuple #[arr r, .bool true] :: arr r :: .bool true :: u 32 :: u 33 :: u 34 :: u 35 :: u 36 :: u 37 :: u 38 :: u 39 :: u 40 :: u 41 :: u 42 :: u 43 :: u 44 :: u 45 :: u 46 :: u 47 :: u 48 :: u 49 :: .bool false :: .tuple #[arr s, .bool true] :: arr a :: .tuple #[arr s, .bool true] :: arr s :: .bool true :: .tuple #[arr t, .bool true] :: arr a :: arr a :: arr (addP a a) :: .tuple #[arr t, .bool true] :: arr t :: .bool true :: .bool true :: .bool true :: arr s :: arr s :: arr (mulP s s) :: arr a :: .bool true :: .bool false :: .bool false :: .bool false :: .bool true :: .bool false :: .bool false :: un :: un :: un :: un :: .bool false :: .bool false :: arr a :: arr 0 :: .bool true :: .bool true :: un :: un :: un :: .bool true :: List.replicate 35 un).toArray, []⟩) (by kernel_rfl) ?_
  refine wp_cond_true (by kernel_rfl) ?_
  refine wp_seq ?_
  -- region 13
  refine wl_region ?_
  refine wl_load h56 5 rfl (by kernel_rfl) (by kernel_rfl) Tryd.underlying26 rfl info26 ?_
  refine wl_load h56 3 rfl (by kernel_rfl) (by kernel_rfl) Tryd.underlying26 rfl info26 ?_
  refine wl_call (v := .bool true) h56 (by kernel_rfl) enter30 #[arr a, arr 0] (by kernel_rfl) (Same_yes a 0 ha (by decide) hA w55) ?_
  intro w57 h58
  refine wl_val (.bool true) (by kernel_rfl) (by kernel_rfl) ?_
  refine wl_val (.bool true) (by kernel_rfl) (by kernel_rfl) ?_
  refine wl_val (.bool true) (by kernel_rfl) (by kernel_rfl) ?_
  refine wl_val (.bool true) (by kernel_rfl) (by kernel_rfl) ?_
  refine wl_val (.bool true) (by kernel_rfl) (run_eqb true true (by kernel_rfl) (by kernel_rfl)) ?_
  refine wl_val (.bool true) (by kernel_rfl) (by kernel_rfl) ?_
  refine wl_skip (by kernel_rfl) ?_
  refine wl_skip (by kernel_rfl) ?_
  refine wl_skip (by kernel_rfl) ?_
  refine wl_val (.bool true) (by kernel_rfl) (by kernel_rfl) ?_
  refine wl_val (.bool true) (by kernel_rfl) (by kernel_rfl) ?_
  refine wl_nil ?_
  refine then_at (F := ⟨(.agg c0 :: .agg c1 :: pt q1 :: pt q4 :: .bool true :: pt q13 :: pt q14 :: pt q17 :: pt q26 :: .bool true :: pt q39 :: .bool true :: pt q48 :: .bool true :: un :: un :: un :: un :: .bool true :: .bool false :: .agg c0 :: arr a :: .agg c1 :: arr b :: arr 0 :: .tuple #[arr r, .bool true] :: arr a :: arr a :: arr (mulP a a) :: .tuple #[arr r, .bool true] :: arr r :: .bool true :: u 32 :: u 33 :: u 34 :: u 35 :: u 36 :: u 37 :: u 38 :: u 39 :: u 40 :: u 41 :: u 42 :: u 43 :: u 44 :: u 45 :: u 46 :: u 47 :: u 48 :: u 49 :: .bool false :: .tuple #[arr s, .bool true] :: arr a :: .tuple #[arr s, .bool true] :: arr s :: .bool true :: .tuple #[arr t, .bool true] :: arr a :: arr a :: arr (addP a a) :: .tuple #[arr t, .bool true] :: arr t :: .bool true :: .bool true :: .bool true :: arr s :: arr s :: arr (mulP s s) :: arr a :: .bool true :: .bool false :: .bool false :: .bool false :: .bool true :: .bool false :: .bool false :: un :: un :: un :: un :: .bool false :: .bool false :: arr a :: arr 0 :: .bool true :: .bool true :: un :: un :: un :: .bool true :: arr a :: arr 0 :: .bool true :: .bool true :: .bool true :: .bool true :: .bool true :: .bool true :: .bool true :: un :: un :: un :: .bool true :: List.replicate 22 un).toArray, []⟩) (by kernel_rfl) ?_
  refine wp_ret ?_
  repeat first | refine then_ret ?_ | refine block_ret ?_
  exact bodyPost_ret (v := .bool true) (by kernel_rfl) rfl ⟨rfl, h58.old⟩
set_option linter.unusedVariables false in
set_option maxRecDepth 100000 in
set_option maxHeartbeats 4000000 in
theorem sq_b1 (c0 c1 : Array Value) (a b r : Nat) (hz0 : c0.size = 32) (hz1 : c1.size = 32) (ha : a < P) (hb : b < P) (hr : rootP (mulP a a) = some r) (hr2 : r % 2 = 0) (hrP : r < P) (hR : r = a ∨ r ≠ a ∧ r = negP a) (hA : a ≠ 0) (hB : b = 0) (s : Nat) (rt1 : rootP a = some s) (hss : mulP s s = a) (hsP : s < P) (rt2 : rootP (addP a a) = none)
    (KA : ∀ w, Vars w → Calls Tryd.prog 20 #[.agg c0] w fun e w' => e = .returned (arr a) ∧ Below w.heap.size w w')
    (KB : ∀ w, Vars w → Calls Tryd.prog 20 #[.agg c1] w fun e w' => e = .returned (arr b) ∧ Below w.heap.size w w') (w : World) (V : Vars w) :
    Calls Tryd.prog 8 #[.agg c0, .agg c1] w fun e w' => e = .returned (.bool true) ∧ Below w.heap.size w w' := by
  have VV := hide V
  have H0 := HA.start w
  clear V
  go_enter Tryd.func8, Tryd.ntmps8
  refine wp_seq ?_
  -- region 0
  refine wl_region ?_
  refine wl_make H0 40 (by kernel_rfl) (run_box40 (c := c0) (by kernel_rfl)) ?_
  intro q1 w2 h3
  refine wl_make h3 40 (by kernel_rfl) (run_box40 (c := c1) (by kernel_rfl)) ?_
  intro q4 w5 h6
  refine wl_val (.bool false) (by kernel_rfl) (by kernel_rfl) ?_
  refine wl_nil ?_
  refine then_at (F := ⟨(.agg c0 :: .agg c1 :: pt q1 :: pt q4 :: .bool false :: List.replicate 120 un).toArray, []⟩) (by kernel_rfl) ?_
  refine wp_seq ?_
  refine wp_seq ?_
  -- region 1
  refine wl_region ?_
  refine wl_call (v := .bool true) h6 (by kernel_rfl) enter19 #[] (by kernel_rfl) (works_any w5 (VV.out.below h6.old VV.out.big)) ?_
  intro w7 h8
  refine wl_val (.bool false) (by kernel_rfl) (by kernel_rfl) ?_
  refine wl_nil ?_
  refine then_at (F := ⟨(.agg c0 :: .agg c1 :: pt q1 :: pt q4 :: .bool false :: un :: un :: un :: un :: un :: un :: un :: un :: un :: un :: un :: un :: un :: .bool true :: .bool false :: List.replicate 105 un).toArray, []⟩) (by kernel_rfl) ?_
  refine wp_cond_false (by kernel_rfl) ?_
  refine wp_skip ?_
  refine then_at (F := ⟨(.agg c0 :: .agg c1 :: pt q1 :: pt q4 :: .bool false :: un :: un :: un :: un :: un :: un :: un :: un :: un :: un :: un :: un :: un :: .bool true :: .bool false :: List.replicate 105 un).toArray, []⟩) (by kernel_rfl) ?_
  refine wp_seq ?_
  -- region 3
  obtain ⟨B9, eB9⟩ : ∃ B, B = w7.heap.size := ⟨_, rfl⟩
  refine wp_region_ghost (fun g : Nat → Nat => (⟨(.agg c0 :: .agg c1 :: pt q1 :: pt q4 :: .bool false :: pt (g 4) :: pt (g 5) :: un :: un :: un :: un :: un :: un :: un :: un :: un :: un :: un :: .bool true :: .bool false :: .agg c0 :: arr a :: .agg c1 :: arr b :: List.replicate 101 un).toArray, []⟩ : Act)) (GS w [(q4, 40, c1), (q1, 40, c0)] B9 2 4 6 26 (el 0) (fun j => el ([a, b].getD j a))) [.agg c0, arr a, .agg c1, arr b, .pointer (some ⟨0, 0, none⟩), .pointer (some ⟨0, 0, none⟩), undef, undef] (by kernel_rfl) (by kernel_rfl) (by kernel_rfl) (by kernel_rfl) (fun _ _ _ _ h => h) (fun d hd => GS.start h8.drew eB9 (by decide) (fun _ _ => rfl) (fun j hj => hd j (Nat.lt_of_lt_of_le hj (by decide)))) ?_ ?_
  · refine AllGhost.cons (ghost_load 1 rfl (by decide) (fun _ => by kernel_rfl) (fun _ => by kernel_rfl) (fun _ => by kernel_rfl) Tryd.underlying40 rfl (by first | (show _ = some c0.size; rw [hz0]; exact info40) | (show _ = some c1.size; rw [hz1]; exact info40))) ?_
    refine AllGhost.cons (ghost_call (v := arr a) (by decide) (fun _ => by kernel_rfl) (fun _ => by kernel_rfl) enter20 #[.agg c0] (fun _ => by kernel_rfl) (fun w' h' => KA w' (VV.out.below h'.old VV.out.big))) ?_
    refine AllGhost.cons (ghost_load 0 rfl (by decide) (fun _ => by kernel_rfl) (fun _ => by kernel_rfl) (fun _ => by kernel_rfl) Tryd.underlying40 rfl (by first | (show _ = some c0.size; rw [hz0]; exact info40) | (show _ = some c1.size; rw [hz1]; exact info40))) ?_
    refine AllGhost.cons (ghost_call (v := arr b) (by decide) (fun _ => by kernel_rfl) (fun _ => by kernel_rfl) enter20 #[.agg c1] (fun _ => by kernel_rfl) (fun w' h' => KB w' (VV.out.below h'.old VV.out.big))) ?_
    refine AllGhost.cons (ghost_make 0 (by decide) rfl (fun _ => by kernel_rfl) (fun _ _ => by kernel_rfl) (fun _ _ => run_alloc26)) ?_
    refine AllGhost.cons (ghost_make 1 (by decide) rfl (fun _ => by kernel_rfl) (fun _ _ => by kernel_rfl) (fun _ _ => run_alloc26)) ?_
    refine AllGhost.cons (ghost_fill 0 (by decide) rfl (fun _ => by kernel_rfl) (fun _ => by kernel_rfl) (fun _ => by kernel_rfl) (fun _ => by kernel_rfl) info26 (one_el _) (by kernel_rfl)) ?_
    refine AllGhost.cons (ghost_fill 1 (by decide) rfl (fun _ => by kernel_rfl) (fun _ => by kernel_rfl) (fun _ => by kernel_rfl) (fun _ => by kernel_rfl) info26 (one_el _) (by kernel_rfl)) ?_
    exact AllGhost.nil
  intro g w10 g11
  have h12 : HA w [(g 5, 26, el b), (g 4, 26, el a), (q4, 40, c1), (q1, 40, c0)] w10 := g11.two
  clear g11 eB9
  generalize g 4 = q13 at h12 ⊢
  generalize g 5 = q14 at h12 ⊢
  clear g
  refine then_at (F := ⟨(.agg c0 :: .agg c1 :: pt q1 :: pt q4 :: .bool false :: pt q13 :: pt q14 :: un :: un :: un :: un :: un :: un :: un :: un :: un :: un :: un :: .bool true :: .bool false :: .agg c0 :: arr a :: .agg c1 :: arr b :: List.replicate 101 un).toArray, []⟩) (by kernel_rfl) ?_
  refine wp_seq ?_
  -- region 4
  refine wl_region ?_
  refine wl_call (v := arr 0) h12 (by kernel_rfl) enter17 #[iN .u32 0] (by kernel_rfl) (Small_any 0 (by decide) w10) ?_
  intro w15 h16
  refine wl_make h16 26 (by kernel_rfl) run_alloc26 ?_
  intro q17 w18 h19
  refine wl_fill (c' := el 0) h19 0 rfl (by kernel_rfl) (by kernel_rfl) (by kernel_rfl) rfl info26 (one_el _) ?_
  intro w20 (h21 : HA w [(q17, 26, el 0), (q14, 26, el b), (q13, 26, el a), (q4, 40, c1), (q1, 40, c0)] w20)
  refine wl_nil ?_
  refine then_at (F := ⟨(.agg c0 :: .agg c1 :: pt q1 :: pt q4 :: .bool false :: pt q13 :: pt q14 :: pt q17 :: un :: un :: un :: un :: un :: un :: un :: un :: un :: un :: .bool true :: .bool false :: .agg c0 :: arr a :: .agg c1 :: arr b :: arr 0 :: List.replicate 100 un).toArray, []⟩) (by kernel_rfl) ?_
  refine wp_seq ?_
  -- region 5
  refine wl_region ?_
  refine wl_load h21 2 rfl (by kernel_rfl) (by kernel_rfl) Tryd.underlying26 rfl info26 ?_
  refine wl_load h21 2 rfl (by kernel_rfl) (by kernel_rfl) Tryd.underlying26 rfl info26 ?_
  refine wl_call (v := arr (mulP a a)) h21 (by kernel_rfl) enter26 #[arr a, arr a] (by kernel_rfl) (Mul_any a a ha ha w20 (VV.out.below h21.old VV.out.big)) ?_
  intro w22 h23
  refine wl_call (v := .tuple #[arr r, .bool true]) h23 (by kernel_rfl) enter31 #[arr (mulP a a)] (by kernel_rfl) (Root_yes rfl (mulP_lt _ _) hr w22 (VV.out.below h23.old VV.out.big)) ?_
  intro w24 h25
  refine wl_val (.tuple #[arr r, .bool true]) (by kernel_rfl) (by kernel_rfl) ?_
  refine wl_val (arr r) (by kernel_rfl) (by kernel_rfl) ?_
  refine wl_val (.bool true) (by kernel_rfl) (by kernel_rfl) ?_
  refine wl_make h25 26 (by kernel_rfl) run_alloc26 ?_
  intro q26 w27 h28
  refine wl_fill (c' := el r) h28 0 rfl (by kernel_rfl) (by kernel_rfl) (by kernel_rfl) rfl info26 (one_el _) ?_
  intro w29 (h30 : HA w [(q26, 26, el r), (q17, 26, el 0), (q14, 26, el b), (q13, 26, el a), (q4, 40, c1), (q1, 40, c0)] w29)
  refine wl_val (.bool true) (by kernel_rfl) (by kernel_rfl) ?_
  refine wl_nil ?_
  refine then_at (F := ⟨(.agg c0 :: .agg c1 :: pt q1 :: pt q4 :: .bool false :: pt q13 :: pt q14 :: pt q17 :: pt q26 :: .bool true :: un :: un :: un :: un :: un :: un :: un :: un :: .bool true :: .bool false :: .agg c0 :: arr a :: .agg c1 :: arr b :: arr 0 :: .tuple #[arr r, .bool true] :: arr a :: arr a :: arr (mulP a a) :: .tuple #[arr r, .bool true] :: arr r :: .bool true :: List.replicate 93 un).toArray, []⟩) (by kernel_rfl) ?_
  refine wp_seq ?_
  refine wp_seq ?_
  -- region 6, two ways
  refine wp_meet (fun A w' => ∃ u : Nat → Value, A = ⟨(.agg c0 :: .agg c1 :: pt q1 :: pt q4 :: .bool false :: pt q13 :: pt q14 :: pt q17 :: pt q26 :: .bool true :: un :: un :: un :: un :: un :: un :: un :: un :: .bool true :: .bool false :: .agg c0 :: arr a :: .agg c1 :: arr b :: arr 0 :: .tuple #[arr r, .bool true] :: arr a :: arr a :: arr (mulP a a) :: .tuple #[arr r, .bool true] :: arr r :: .bool true :: u 32 :: u 33 :: u 34 :: u 35 :: u 36 :: u 37 :: u 38 :: u 39 :: u 40 :: u 41 :: u 42 :: u 43 :: u 44 :: u 45 :: u 46 :: u 47 :: u 48 :: u 49 :: .bool false :: List.replicate 74 un).toArray, []⟩ ∧ HA w [(q26, 26, el r), (q17, 26, el 0), (q14, 26, el b), (q13, 26, el a), (q4, 40, c1), (q1, 40, c0)] w') ?_ ?_
  · rcases hR with hR | ⟨hR, hR'⟩
    · -- region 6
      refine wp_region_sure ⟨(.agg c0 :: .agg c1 :: pt q1 :: pt q4 :: .bool false :: pt q13 :: pt q14 :: pt q17 :: pt q26 :: .bool true :: un :: un :: un :: un :: un :: un :: un :: un :: .bool true :: .bool false :: .agg c0 :: arr a :: .agg c1 :: arr b :: arr 0 :: .tuple #[arr r, .bool true] :: arr a :: arr a :: arr (mulP a a) :: .tuple #[arr r, .bool true] :: arr r :: .bool true :: .bool true :: .bool false :: .bool false :: arr r :: .bool false :: .bool false :: .bool false :: arr r :: arr a :: .bool true :: .bool false :: .bool false :: un :: un :: un :: un :: un :: .bool false :: .bool false :: List.replicate 74 un).toArray, []⟩ (HA w [(q26, 26, el r), (q17, 26, el 0), (q14, 26, el b), (q13, 26, el a), (q4, 40, c1), (q1, 40, c0)]) [.bool true, .bool false, .bool false, arr r, .bool false, .bool false, .bool false, arr r, arr a, .bool true, .bool false, .bool false, undef, undef, undef, undef, undef, .bool false, .bool false] (by kernel_rfl) (by kernel_rfl) (by kernel_rfl) (by kernel_rfl) (fun _ _ _ h => h) h30.drew ?_ ?_
      · refine AllSure.cons (OpSure.take (v := .bool true) (by kernel_rfl) (by kernel_rfl) (fun _ _ => (by kernel_rfl))) ?_
        refine AllSure.cons (OpSure.take (v := .bool false) (by kernel_rfl) (by kernel_rfl) (fun _ _ => (by kernel_rfl))) ?_
        refine AllSure.cons (OpSure.take (v := .bool false) (by kernel_rfl) (by kernel_rfl) (fun _ _ => (by kernel_rfl))) ?_
        refine AllSure.cons (OpSure.take (v := arr r) (by kernel_rfl) (by kernel_rfl) (fun _ h => run_load_blk (by kernel_rfl) (h.get 0 rfl) Tryd.underlying26 rfl info26)) ?_
        refine AllSure.cons (sure_call (v := .bool false) (by kernel_rfl) (by kernel_rfl) enter15 HA.keep #[arr r] (by kernel_rfl) (fun w' h' => Odd_no r hr2 w')) ?_
        refine AllSure.cons (OpSure.take (v := .bool false) (by kernel_rfl) (by kernel_rfl) (fun _ _ => (by kernel_rfl))) ?_
        refine AllSure.cons (OpSure.take (v := .bool false) (by kernel_rfl) (by kernel_rfl) (fun _ _ => (by kernel_rfl))) ?_
        refine AllSure.cons (OpSure.take (v := arr r) (by kernel_rfl) (by kernel_rfl) (fun _ h => run_load_blk (by kernel_rfl) (h.get 0 rfl) Tryd.underlying26 rfl info26)) ?_
        refine AllSure.cons (OpSure.take (v := arr a) (by kernel_rfl) (by kernel_rfl) (fun _ h => run_load_blk (by kernel_rfl) (h.get 3 rfl) Tryd.underlying26 rfl info26)) ?_
        refine AllSure.cons (sure_call (v := .bool true) (by kernel_rfl) (by kernel_rfl) enter30 HA.keep #[arr r, arr a] (by kernel_rfl) (fun w' h' => Same_yes r a hrP ha hR w')) ?_
        refine AllSure.cons (OpSure.take (v := .bool false) (by kernel_rfl) (by kernel_rfl) (fun _ _ => (by kernel_rfl))) ?_
        refine AllSure.cons (OpSure.take (v := .bool false) (by kernel_rfl) (by kernel_rfl) (fun _ _ => (by kernel_rfl))) ?_
        refine AllSure.cons (OpSure.skip (by kernel_rfl) (by kernel_rfl)) ?_
        refine AllSure.cons (OpSure.skip (by kernel_rfl) (by kernel_rfl)) ?_
        refine AllSure.cons (OpSure.skip (by kernel_rfl) (by kernel_rfl)) ?_
        refine AllSure.cons (OpSure.skip (by kernel_rfl) (by kernel_rfl)) ?_
        refine AllSure.cons (OpSure.skip (by kernel_rfl) (by kernel_rfl)) ?_
        refine AllSure.cons (OpSure.take (v := .bool false) (by kernel_rfl) (by kernel_rfl) (fun _ _ => (by kernel_rfl))) ?_
        refine AllSure.cons (OpSure.take (v := .bool false) (by kernel_rfl) (by kernel_rfl) (fun _ _ => (by kernel_rfl))) ?_
        exact AllSure.nil
      intro w31 h32
      exact then_I ⟨fun i => ([(32, .bool true), (33, .bool false), (34, .bool false), (35, arr r), (36, .bool false), (37, .bool false), (38, .bool false), (39, arr r), (40, arr a), (41, .bool true), (42, .bool false), (43, .bool false), (44, undef), (45, undef), (46, undef), (47, undef), (48, undef), (49, .bool false)].find? (·.1 == i)).elim undef (·.2), by kernel_rfl, h32⟩
    · -- region 6
      refine wp_region_sure ⟨(.agg c0 :: .agg c1 :: pt q1 :: pt q4 :: .bool false :: pt q13 :: pt q14 :: pt q17 :: pt q26 :: .bool true :: un :: un :: un :: un :: un :: un :: un :: un :: .bool true :: .bool false :: .agg c0 :: arr a :: .agg c1 :: arr b :: arr 0 :: .tuple #[arr r, .bool true] :: arr a :: arr a :: arr (mulP a a) :: .tuple #[arr r, .bool true] :: arr r :: .bool true :: .bool true :: .bool false :: .bool false :: arr r :: .bool false :: .bool false :: .bool false :: arr r :: arr a :: .bool false :: .bool true :: .bool true :: arr r :: arr a :: arr (negP a) :: .bool true :: .bool false :: .bool false :: .bool false :: List.replicate 74 un).toArray, []⟩ (HA w [(q26, 26, el r), (q17, 26, el 0), (q14, 26, el b), (q13, 26, el a), (q4, 40, c1), (q1, 40, c0)]) [.bool true, .bool false, .bool false, arr r, .bool false, .bool false, .bool false, arr r, arr a, .bool false, .bool true, .bool true, arr r, arr a, arr (negP a), .bool true, .bool false, .bool false, .bool false] (by kernel_rfl) (by kernel_rfl) (by kernel_rfl) (by kernel_rfl) (fun _ _ _ h => h) h30.drew ?_ ?_
      · refine AllSure.cons (OpSure.take (v := .bool true) (by kernel_rfl) (by kernel_rfl) (fun _ _ => (by kernel_rfl))) ?_
        refine AllSure.cons (OpSure.take (v := .bool false) (by kernel_rfl) (by kernel_rfl) (fun _ _ => (by kernel_rfl))) ?_
        refine AllSure.cons (OpSure.take (v := .bool false) (by kernel_rfl) (by kernel_rfl) (fun _ _ => (by kernel_rfl))) ?_
        refine AllSure.cons (OpSure.take (v := arr r) (by kernel_rfl) (by kernel_rfl) (fun _ h => run_load_blk (by kernel_rfl) (h.get 0 rfl) Tryd.underlying26 rfl info26)) ?_
        refine AllSure.cons (sure_call (v := .bool false) (by kernel_rfl) (by kernel_rfl) enter15 HA.keep #[arr r] (by kernel_rfl) (fun w' h' => Odd_no r hr2 w')) ?_
        refine AllSure.cons (OpSure.take (v := .bool false) (by kernel_rfl) (by kernel_rfl) (fun _ _ => (by kernel_rfl))) ?_
        refine AllSure.cons (OpSure.take (v := .bool false) (by kernel_rfl) (by kernel_rfl) (fun _ _ => (by kernel_rfl))) ?_
        refine AllSure.cons (OpSure.take (v := arr r) (by kernel_rfl) (by kernel_rfl) (fun _ h => run_load_blk (by kernel_rfl) (h.get 0 rfl) Tryd.underlying26 rfl info26)) ?_
        refine AllSure.cons (OpSure.take (v := arr a) (by kernel_rfl) (by kernel_rfl) (fun _ h => run_load_blk (by kernel_rfl) (h.get 3 rfl) Tryd.underlying26 rfl info26)) ?_
        refine AllSure.cons (sure_call (v := .bool false) (by kernel_rfl) (by kernel_rfl) enter30 HA.keep #[arr r, arr a] (by kernel_rfl) (fun w' h' => Same_no r a hrP ha hR w')) ?_
        refine AllSure.cons (OpSure.take (v := .bool true) (by kernel_rfl) (by kernel_rfl) (fun _ _ => (by kernel_rfl))) ?_
        refine AllSure.cons (OpSure.take (v := .bool true) (by kernel_rfl) (by kernel_rfl) (fun _ _ => (by kernel_rfl))) ?_
        refine AllSure.cons (OpSure.take (v := arr r) (by kernel_rfl) (by kernel_rfl) (fun _ h => run_load_blk (by kernel_rfl) (h.get 0 rfl) Tryd.underlying26 rfl info26)) ?_
        refine AllSure.cons (OpSure.take (v := arr a) (by kernel_rfl) (by kernel_rfl) (fun _ h => run_load_blk (by kernel_rfl) (h.get 3 rfl) Tryd.underlying26 rfl info26)) ?_
        refine AllSure.cons (sure_call (v := arr (negP a)) (by kernel_rfl) (by kernel_rfl) enter28 HA.keep #[arr a] (by kernel_rfl) (fun w' h' => Neg_any a ha w' (VV.out.below h'.old VV.out.big))) ?_
        refine AllSure.cons (sure_call (v := .bool true) (by kernel_rfl) (by kernel_rfl) enter30 HA.keep #[arr r, arr (negP a)] (by kernel_rfl) (fun w' h' => Same_yes r (negP a) hrP (negP_lt _) hR' w')) ?_
        refine AllSure.cons (OpSure.take (v := .bool false) (by kernel_rfl) (by kernel_rfl) (fun _ _ => (by kernel_rfl))) ?_
        refine AllSure.cons (OpSure.take (v := .bool false) (by kernel_rfl) (by kernel_rfl) (fun _ _ => (by kernel_rfl))) ?_
        refine AllSure.cons (OpSure.take (v := .bool false) (by kernel_rfl) (by kernel_rfl) (fun _ _ => (by kernel_rfl))) ?_
        exact AllSure.nil
      intro w33 h34
      exact then_I ⟨fun i => ([(32, .bool true), (33, .bool false), (34, .bool false), (35, arr r), (36, .bool false), (37, .bool false), (38, .bool false), (39, arr r), (40, arr a), (41, .bool false), (42, .bool true), (43, .bool true), (44, arr r), (45, arr a), (46, arr (negP a)), (47, .bool true), (48, .bool false), (49, .bool false)].find? (·.1 == i)).elim undef (·.2), by kernel_rfl, h34⟩
  rintro _ w35 ⟨u, rfl, h36⟩
  refine wp_cond_false (by kernel_rfl) ?_
  refine wp_skip ?_
  refine then_at (F := ⟨(.agg c0 :: .agg c1 :: pt q1 :: pt q4 :: .bool false :: pt q13 :: pt q14 :: pt q17 :: pt q26 :: .bool true :: un :: un :: un :: un :: un :: un :: un :: un :: .bool true :: .bool false :: .agg c0 :: arr a :: .agg c1 :: arr b :: arr 0 :: .tuple #[arr r, .bool true] :: arr a :: arr a :: arr (mulP a a) :: .tuple #[arr r, .bool true] :: arr r :: .bool true :: u 32 :: u 33 :: u 34 :: u 35 :: u 36 :: u 37 :: u 38 :: u 39 :: u 40 :: u 41 :: u 42 :: u 43 :: u 44 :: u 45 :: u 46 :: u 47 :: u 48 :: u 49 :: .bool false :: List.replicate 74 un).toArray, []⟩) (by kernel_rfl) ?_
  refine wp_seq ?_
  -- region 8
  refine wl_region ?_
  refine wl_load h36 3 rfl (by kernel_rfl) (by kernel_rfl) Tryd.underlying26 rfl info26 ?_
  refine wl_call (v := .tuple #[arr s, .bool true]) h36 (by kernel_rfl) enter31 #[arr a] (by kernel_rfl) (Root_yes rfl ha rt1 w35 (VV.out.below h36.old VV.out.big)) ?_
  intro w37 h38
  refine wl_val (.tuple #[arr s, .bool true]) (by kernel_rfl) (by kernel_rfl) ?_
  refine wl_val (arr s) (by kernel_rfl) (by kernel_rfl) ?_
  refine wl_val (.bool true) (by kernel_rfl) (by kernel_rfl) ?_
  refine wl_make h38 26 (by kernel_rfl) run_alloc26 ?_
  intro q39 w40 h41
  refine wl_fill (c' := el s) h41 0 rfl (by kernel_rfl) (by kernel_rfl) (by kernel_rfl) rfl info26 (one_el _) ?_
  intro w42 (h43 : HA w [(q39, 26, el s), (q26, 26, el r), (q17, 26, el 0), (q14, 26, el b), (q13, 26, el a), (q4, 40, c1), (q1, 40, c0)] w42)
  refine wl_val (.bool true) (by kernel_rfl) (by kernel_rfl) ?_
  refine wl_nil ?_
  refine then_at (F := ⟨(.agg c0 :: .agg c1 :: pt q1 :: pt q4 :: .bool false :: pt q13 :: pt q14 :: pt q17 :: pt q26 :: .bool true :: pt q39 :: .bool true :: un :: un :: un :: un :: un :: un :: .bool true :: .bool false :: .agg c0 :: arr a :: .agg c1 :: arr b :: arr 0 :: .tuple #[arr r, .bool true] :: arr a :: arr a :: arr (mulP a a) :: .tuple #[arr r, .bool true] :: arr r :: .bool true :: u 32 :: u 33 :: u 34 :: u 35 :: u 36 :: u 37 :: u 38 :: u 39 :: u 40 :: u 41 :: u 42 :: u 43 :: u 44 :: u 45 :: u 46 :: u 47 :: u 48 :: u 49 :: .bool false :: .tuple #[arr s, .bool true] :: arr a :: .tuple #[arr s, .bool true] :: arr s :: .bool true :: List.replicate 69 un).toArray, []⟩) (by kernel_rfl) ?_
  refine wp_seq ?_
  -- region 9
  refine wl_region ?_
  refine wl_load h43 4 rfl (by kernel_rfl) (by kernel_rfl) Tryd.underlying26 rfl info26 ?_
  refine wl_load h43 4 rfl (by kernel_rfl) (by kernel_rfl) Tryd.underlying26 rfl info26 ?_
  refine wl_call (v := arr (addP a a)) h43 (by kernel_rfl) enter22 #[arr a, arr a] (by kernel_rfl) (Add_any a a ha ha w42 (VV.out.below h43.old VV.out.big)) ?_
  intro w44 h45
  refine wl_call (v := .tuple #[arr 0, .bool false]) h45 (by kernel_rfl) enter31 #[arr (addP a a)] (by kernel_rfl) (Root_no rfl (addP_lt _ _) rt2 w44 (VV.out.below h45.old VV.out.big)) ?_
  intro w46 h47
  refine wl_val (.tuple #[arr 0, .bool false]) (by kernel_rfl) (by kernel_rfl) ?_
  refine wl_val (arr 0) (by kernel_rfl) (by kernel_rfl) ?_
  refine wl_val (.bool false) (by kernel_rfl) (by kernel_rfl) ?_
  refine wl_make h47 26 (by kernel_rfl) run_alloc26 ?_
  intro q48 w49 h50
  refine wl_fill (c' := el 0) h50 0 rfl (by kernel_rfl) (by kernel_rfl) (by kernel_rfl) rfl info26 (one_el _) ?_
  intro w51 (h52 : HA w [(q48, 26, el 0), (q39, 26, el s), (q26, 26, el r), (q17, 26, el 0), (q14, 26, el b), (q13, 26, el a), (q4, 40, c1), (q1, 40, c0)] w51)
  refine wl_val (.bool false) (by kernel_rfl) (by kernel_rfl) ?_
  refine wl_nil ?_
  refine then_at (F := ⟨(.agg c0 :: .agg c1 :: pt q1 :: pt q4 :: .bool false :: pt q13 :: pt q14 :: pt q17 :: pt q26 :: .bool true :: pt q39 :: .bool true :: pt q48 :: .bool false :: un :: un :: un :: un :: .bool true :: .bool false :: .agg c0 :: arr a :: .agg c1 :: arr b :: arr 0 :: .tuple #[arr r, .bool true] :: arr a :: arr a :: arr (mulP a a) :: .tuple #[arr r, .bool true] :: arr r :: .bool true :: u 32 :: u 33 :: u 34 :: u 35 :: u 36 :: u 37 :: u 38 :: u 39 :: u 40 :: u 41 :: u 42 :: u 43 :: u 44 :: u 45 :: u 46 :: u 47 :: u 48 :: u 49 :: .bool false :: .tuple #[arr s, .bool true] :: arr a :: .tuple #[arr s, .bool true] :: arr s :: .bool true :: .tuple #[arr 0, .bool false] :: arr a :: arr a :: arr (addP a a) :: .tuple #[arr 0, .bool false] :: arr 0 :: .bool false :: List.replicate 62 un).toArray, []⟩) (by kernel_rfl) ?_
  refine wp_seq ?_
  refine wp_seq ?_
  -- region 10
  refine wp_region_sure ⟨(.agg c0 :: .agg c1 :: pt q1 :: pt q4 :: .bool false :: pt q13 :: pt q14 :: pt q17 :: pt q26 :: .bool true :: pt q39 :: .bool true :: pt q48 :: .bool false :: un :: un :: un :: un :: .bool true :: .bool false :: .agg c0 :: arr a :: .agg c1 :: arr b :: arr 0 :: .tuple #[arr r, .bool true] :: arr a :: arr a :: arr (mulP a a) :: .tuple #[arr r, .bool true] :: arr r :: .bool true :: u 32 :: u 33 :: u 34 :: u 35 :: u 36 :: u 37 :: u 38 :: u 39 :: u 40 :: u 41 :: u 42 :: u 43 :: u 44 :: u 45 :: u 46 :: u 47 :: u 48 :: u 49 :: .bool false :: .tuple #[arr s, .bool true] :: arr a :: .tuple #[arr s, .bool true] :: arr s :: .bool true :: .tuple #[arr 0, .bool false] :: arr a :: arr a :: arr (addP a a) :: .tuple #[arr 0, .bool false] :: arr 0 :: .bool false :: .bool true :: .bool true :: arr s :: arr s :: arr (mulP s s) :: arr a :: .bool true :: .bool false :: .bool false :: .bool false :: .bool true :: .bool false :: .bool false :: un :: un :: un :: un :: .bool false :: .bool false :: List.replicate 43 un).toArray, []⟩ (HA w [(q48, 26, el 0), (q39, 26, el s), (q26, 26, el r), (q17, 26, el 0), (q14, 26, el b), (q13, 26, el a), (q4, 40, c1), (q1, 40, c0)]) [.bool true, .bool true, arr s, arr s, arr (mulP s s), arr a, .bool true, .bool false, .bool false, .bool false, .bool true, .bool false, .bool false, undef, undef, undef, undef, .bool false, .bool false] (by kernel_rfl) (by kernel_rfl) (by kernel_rfl) (by kernel_rfl) (fun _ _ _ h => h) h52.drew ?_ ?_
  · refine AllSure.cons (OpSure.take (v := .bool true) (by kernel_rfl) (by kernel_rfl) (fun _ _ => (by kernel_rfl))) ?_
    refine AllSure.cons (OpSure.take (v := .bool true) (by kernel_rfl) (by kernel_rfl) (fun _ _ => (by kernel_rfl))) ?_
    refine AllSure.cons (OpSure.take (v := arr s) (by kernel_rfl) (by kernel_rfl) (fun _ h => run_load_blk (by kernel_rfl) (h.get 1 rfl) Tryd.underlying26 rfl info26)) ?_
    refine AllSure.cons (OpSure.take (v := arr s) (by kernel_rfl) (by kernel_rfl) (fun _ h => run_load_blk (by kernel_rfl) (h.get 1 rfl) Tryd.underlying26 rfl info26)) ?_
    refine AllSure.cons (sure_call (v := arr (mulP s s)) (by kernel_rfl) (by kernel_rfl) enter26 HA.keep #[arr s, arr s] (by kernel_rfl) (fun w' h' => Mul_any s s hsP hsP w' (VV.out.below h'.old VV.out.big))) ?_
    refine AllSure.cons (OpSure.take (v := arr a) (by kernel_rfl) (by kernel_rfl) (fun _ h => run_load_blk (by kernel_rfl) (h.get 5 rfl) Tryd.underlying26 rfl info26)) ?_
    refine AllSure.cons (sure_call (v := .bool true) (by kernel_rfl) (by kernel_rfl) enter30 HA.keep #[arr (mulP s s), arr a] (by kernel_rfl) (fun w' h' => Same_yes (mulP s s) a (mulP_lt _ _) ha hss w')) ?_
    refine AllSure.cons (OpSure.take (v := .bool false) (by kernel_rfl) (by kernel_rfl) (fun _ _ => (by kernel_rfl))) ?_
    refine AllSure.cons (OpSure.take (v := .bool false) (by kernel_rfl) (by kernel_rfl) (fun _ _ => (by kernel_rfl))) ?_
    refine AllSure.cons (OpSure.take (v := .bool false) (by kernel_rfl) (by kernel_rfl) (fun _ _ => (by kernel_rfl))) ?_
    refine AllSure.cons (OpSure.take (v := .bool true) (by kernel_rfl) (by kernel_rfl) (fun _ _ => (by kernel_rfl))) ?_
    refine AllSure.cons (OpSure.take (v := .bool false) (by kernel_rfl) (by kernel_rfl) (fun _ _ => (by kernel_rfl))) ?_
    refine AllSure.cons (OpSure.take (v := .bool false) (by kernel_rfl) (by kernel_rfl) (fun _ _ => (by kernel_rfl))) ?_
    refine AllSure.cons (OpSure.skip (by kernel_rfl) (by kernel_rfl)) ?_
    refine AllSure.cons (OpSure.skip (by kernel_rfl) (by kernel_rfl)) ?_
    refine AllSure.cons (OpSure.skip (by kernel_rfl) (by kernel_rfl)) ?_
    refine AllSure.cons (OpSure.skip (by kernel_rfl) (by kernel_rfl)) ?_
    refine AllSure.cons (OpSure.take (v := .bool false) (by kernel_rfl) (by kernel_rfl) (fun _ _ => (by kernel_rfl))) ?_
    refine AllSure.cons (OpSure.take (v := .bool false) (by kernel_rfl) (by kernel_rfl) (fun _ _ => (by kernel_rfl))) ?_
    exact AllSure.nil
  intro w53 h54
  refine then_at (F := ⟨(.agg c0 :: .agg c1 :: pt q1 :: pt q4 :: .bool false :: pt q13 :: pt q14 :: pt q17 :: pt q26 :: .bool true :: pt q39 :: .bool true :: pt q48 :: .bool false :: un :: un :: un :: un :: .bool true :: .bool false :: .agg c0 :: arr a :: .agg c1 :: arr b :: arr 0 :: .tuple #[arr r, .bool true] :: arr a :: arr a :: arr (mulP a a) :: .tuple #[arr r, .bool true] :: arr r :: .bool true :: u 32 :: u 33 :: u 34 :: u 35 :: u 36 :: u 37 :: u 38 :: u 39 :: u 40 :: u 41 :: u 42 :: u 43 :: u 44 :: u 45 :: u 46 :: u 47 :: u 48 :: u 49 :: .bool false :: .tuple #[arr s, .bool true] :: arr a :: .tuple #[arr s, .bool true] :: arr s :: .bool true :: .tuple #[arr 0, .bool false] :: arr a :: arr a :: arr (addP a a) :: .tuple #[arr 0, .bool false] :: arr 0 :: .bool false :: .bool true :: .bool true :: arr s :: arr s :: arr (mulP s s) :: arr a :: .bool true :: .bool false :: .bool false :: .bool false :: .bool true :: .bool false :: .bool false :: un :: un :: un :: un :: .bool false :: .bool false :: List.replicate 43 un).toArray, []⟩) (by kernel_rfl) ?_
  refine wp_cond_false (by kernel_rfl) ?_
  refine wp_skip ?_
  refine then_at (F := ⟨(.agg c0 :: .agg c1 :: pt q1 :: pt q4 :: .bool false :: pt q13 :: pt q14 :: pt q17 :: pt q26 :: .bool true :: pt q39 :: .bool true :: pt q48 :: .bool false :: un :: un :: un :: un :: .bool true :: .bool false :: .agg c0 :: arr a :: .agg c1 :: arr b :: arr 0 :: .tuple #[arr r, .bool true] :: arr a :: arr a :: arr (mulP a a) :: .tuple #[arr r, .bool true] :: arr r :: .bool true :: u 32 :: u 33 :: u 34 :: u 35 :: u 36 :: u 37 :: u 38 :: u 39 :: u 40 :: u 41 :: u 42 :: u 43 :: u 44 :: u 45 :: u 46 :: u 47 :: u 48 :: u 49 :: .bool false :: .tuple #[arr s, .bool true] :: arr a :: .tuple #[arr s, .bool true] :: arr s :: .bool true :: .tuple #[arr 0, .bool false] :: arr a :: arr a :: arr (addP a a) :: .tuple #[arr 0, .bool false] :: arr 0 :: .bool false :: .bool true :: .bool true :: arr s :: arr s :: arr (mulP s s) :: arr a :: .bool true :: .bool false :: .bool false :: .bool false :: .bool true :: .bool false :: .bool false :: un :: un :: un :: un :: .bool false :: .bool false :: List.replicate 43 un).toArray, []⟩) (by kernel_rfl) ?_
  refine wp_seq ?_
  refine wp_seq ?_
  -- region 12
  refine wl_region ?_
  refine wl_load h54 5 rfl (by kernel_rfl) (by kernel_rfl) Tryd.underlying26 rfl info26 ?_
  refine wl_load h54 3 rfl (by kernel_rfl) (by kernel_rfl) Tryd.underlying26 rfl info26 ?_
  refine wl_call (v := .bool false) h54 (by kernel_rfl) enter30 #[arr a, arr 0] (by kernel_rfl) (Same_no a 0 ha (by decide) hA w53) ?_
  intro w55 h56
  refine wl_val (.bool false) (by kernel_rfl) (by kernel_rfl) ?_
  refine wl_load h56 4 rfl (by kernel_rfl) (by kernel_rfl) Tryd.underlying26 rfl info26 ?_
  refine wl_load h56 3 rfl (by kernel_rfl) (by kernel_rfl) Tryd.underlying26 rfl info26 ?_
  refine wl_call (v := .bool true) h56 (by kernel_rfl) enter30 #[arr b, arr 0] (by kernel_rfl) (Same_yes b 0 hb (by decide) hB w55) ?_
  intro w57 h58
  refine wl_val (.bool true) (by kernel_rfl) (by kernel_rfl) ?_
  refine wl_nil ?_
  refine then_at (F := ⟨(.agg c0 :: .agg c1 :: pt q1 :: pt q4 :: .bool false :: pt q13 :: pt q14 :: pt q17 :: pt q26 :: .bool true :: pt q39 :: .bool true :: pt q48 :: .bool false :: un :: un :: un :: un :: .bool true :: .bool false :: .agg c0 :: arr a :: .agg c1 :: arr b :: arr 0 :: .tuple #[arr r, .bool true] :: arr a :: arr a :: arr (mulP a a) :: .tuple #[arr r, .bool true] :: arr r :: .bool true :: u 32 :: u 33 :: u 34 :: u 35 :: u 36 :: u 37 :: u 38 :: u 39 :: u 40 :: u 41 :: u 42 :: u 43 :: u 44 :: u 45 :: u 46 :: u 47 :: u 48 :: u 49 :: .bool false :: .tuple #[arr s, .bool true] :: arr a :: .tuple #[arr s, .bool true] :: arr s :: .bool true :: .tuple #[arr 0, .bool false] :: arr a :: arr a :: arr (addP a a) :: .tuple #[arr 0, .bool false] :: arr 0 :: .bool false :: .bool true :: .bool true :: arr s :: arr s :: arr (mulP s s) :: arr a :: .bool true :: .bool false :: .bool false :: .bool false :: .bool true :: .bool false :: .bool false :: un :: un :: un :: un :: .bool false :: .bool false :: arr a :: arr 0 :: .bool false :: .bool false :: arr b :: arr 0 :: .bool true :: .bool true :: List.replicate 35 un).toArray, []⟩) (by kernel_rfl) ?_
  refine wp_cond_true (by kernel_rfl) ?_
  refine wp_seq ?_
  -- region 13
  refine wl_region ?_
  refine wl_load h58 5 rfl (by kernel_rfl) (by kernel_rfl) Tryd.underlying26 rfl info26 ?_
  refine wl_load h58 3 rfl (by kernel_rfl) (by kernel_rfl) Tryd.underlying26 rfl info26 ?_
  refine wl_call (v := .bool false) h58 (by kernel_rfl) enter30 #[arr a, arr 0] (by kernel_rfl) (Same_no a 0 ha (by decide) hA w57) ?_
  intro w59 h60
  refine wl_val (.bool true) (by kernel_rfl) (by kernel_rfl) ?_
  refine wl_val (.bool true) (by kernel_rfl) (by kernel_rfl) ?_
  refine wl_val (.bool false) (by kernel_rfl) (by kernel_rfl) ?_
  refine wl_val (.bool false) (by kernel_rfl) (by kernel_rfl) ?_
  refine wl_val (.bool true) (by kernel_rfl) (run_eqb false false (by kernel_rfl) (by kernel_rfl)) ?_
  refine wl_val (.bool true) (by kernel_rfl) (by kernel_rfl) ?_
  refine wl_skip (by kernel_rfl) ?_
  refine wl_skip (by kernel_rfl) ?_
  refine wl_skip (by kernel_rfl) ?_
  refine wl_val (.bool true) (by kernel_rfl) (by kernel_rfl) ?_
  refine wl_val (.bool true) (by kernel_rfl) (by kernel_rfl) ?_
  refine wl_nil ?_
  refine then_at (F := ⟨(.agg c0 :: .agg c1 :: pt q1 :: pt q4 :: .bool true :: pt q13 :: pt q14 :: pt q17 :: pt q26 :: .bool true :: pt q39 :: .bool true :: pt q48 :: .bool false :: un :: un :: un :: un :: .bool true :: .bool false :: .agg c0 :: arr a :: .agg c1 :: arr b :: arr 0 :: .tuple #[arr r, .bool true] :: arr a :: arr a :: arr (mulP a a) :: .tuple #[arr r, .bool true] :: arr r :: .bool true :: u 32 :: u 33 :: u 34 :: u 35 :: u 36 :: u 37 :: u 38 :: u 39 :: u 40 :: u 41 :: u 42 :: u 43 :: u 44 :: u 45 :: u 46 :: u 47 :: u 48 :: u 49 :: .bool false :: .tuple #[arr s, .bool true] :: arr a :: .tuple #[arr s, .bool true] :: arr s :: .bool true :: .tuple #[arr 0, .bool false] :: arr a :: arr a :: arr (addP a a) :: .tuple #[arr 0, .bool false] :: arr 0 :: .bool false :: .bool true :: .bool true :: arr s :: arr s :: arr (mulP s s) :: arr a :: .bool true :: .bool false :: .bool false :: .bool false :: .bool true :: .bool false :: .bool false :: un :: un :: un :: un :: .bool false :: .bool false :: arr a :: arr 0 :: .bool false :: .bool false :: arr b :: arr 0 :: .bool true :: .bool true :: arr a :: arr 0 :: .bool false :: .bool true :: .bool true :: .bool false :: .bool false :: .bool true :: .bool true :: un :: un :: un :: .bool true :: List.replicate 22 un).toArray, []⟩) (by kernel_rfl) ?_
  refine wp_ret ?_
  repeat first | refine then_ret ?_ | refine block_ret ?_
  exact bodyPost_ret (v := .bool true) (by kernel_rfl) rfl ⟨rfl, h60.old⟩
set_option linter.unusedVariables false in
set_option maxRecDepth 100000 in
set_option maxHeartbeats 4000000 in
theorem sq_b2 (c0 c1 : Array Value) (a b r : Nat) (hz0 : c0.size = 32) (hz1 : c1.size = 32) (ha : a < P) (hb : b < P) (hr : rootP (mulP a a) = some r) (hr2 : r % 2 = 0) (hrP : r < P) (hR : r = a ∨ r ≠ a ∧ r = negP a) (hA : a ≠ 0) (hB : b = 0) (rt1 : rootP a = none) (t : Nat) (rt2 : rootP (addP a a) = some t) (htP : t < P)
    (KA : ∀ w, Vars w → Calls Tryd.prog 20 #[.agg c0] w fun e w' => e = .returned (arr a) ∧ Below w.heap.size w w')
    (KB : ∀ w, Vars w → Calls Tryd.prog 20 #[.agg c1] w fun e w' => e = .returned (arr b) ∧ Below w.heap.size w w') (w : World) (V : Vars w) :
    Calls Tryd.prog 8 #[.agg c0, .agg c1] w fun e w' => e = .returned (.bool true) ∧ Below w.heap.size w w' := by
  have VV := hide V
  have H0 := HA.start w
  clear V
  go_enter Tryd.func8, Tryd.ntmps8
  refine wp_seq ?_
  -- region 0
  refine wl_region ?_
  refine wl_make H0 40 (by kernel_rfl) (run_box40 (c := c0) (by kernel_rfl)) ?_
  intro q1 w2 h3
  refine wl_make h3 40 (by kernel_rfl) (run_box40 (c := c1) (by kernel_rfl)) ?_
  intro q4 w5 h6
  refine wl_val (.bool false) (by kernel_rfl) (by kernel_rfl) ?_
  refine wl_nil ?_
  refine then_at (F := ⟨(.agg c0 :: .agg c1 :: pt q1 :: pt q4 :: .bool false :: List.replicate 120 un).toArray, []⟩) (by kernel_rfl) ?_
  refine wp_seq ?_
  refine wp_seq ?_
  -- region 1
  refine wl_region ?_
  refine wl_call (v := .bool true) h6 (by kernel_rfl) enter19 #[] (by kernel_rfl) (works_any w5 (VV.out.below h6.old VV.out.big)) ?_
  intro w7 h8
  refine wl_val (.bool false) (by kernel_rfl) (by kernel_rfl) ?_
  refine wl_nil ?_
  refine then_at (F := ⟨(.agg c0 :: .agg c1 :: pt q1 :: pt q4 :: .bool false :: un :: un :: un :: un :: un :: un :: un :: un :: un :: un :: un :: un :: un :: .bool true :: .bool false :: List.replicate 105 un).toArray, []⟩) (by kernel_rfl) ?_
  refine wp_cond_false (by kernel_rfl) ?_
  refine wp_skip ?_
  refine then_at (F := ⟨(.agg c0 :: .agg c1 :: pt q1 :: pt q4 :: .bool false :: un :: un :: un :: un :: un :: un :: un :: un :: un :: un :: un :: un :: un :: .bool true :: .bool false :: List.replicate 105 un).toArray, []⟩) (by kernel_rfl) ?_
  refine wp_seq ?_
  -- region 3
  obtain ⟨B9, eB9⟩ : ∃ B, B = w7.heap.size := ⟨_, rfl⟩
  refine wp_region_ghost (fun g : Nat → Nat => (⟨(.agg c0 :: .agg c1 :: pt q1 :: pt q4 :: .bool false :: pt (g 4) :: pt (g 5) :: un :: un :: un :: un :: un :: un :: un :: un :: un :: un :: un :: .bool true :: .bool false :: .agg c0 :: arr a :: .agg c1 :: arr b :: List.replicate 101 un).toArray, []⟩ : Act)) (GS w [(q4, 40, c1), (q1, 40, c0)] B9 2 4 6 26 (el 0) (fun j => el ([a, b].getD j a))) [.agg c0, arr a, .agg c1, arr b, .pointer (some ⟨0, 0, none⟩), .pointer (some ⟨0, 0, none⟩), undef, undef] (by kernel_rfl) (by kernel_rfl) (by kernel_rfl) (by kernel_rfl) (fun _ _ _ _ h => h) (fun d hd => GS.start h8.drew eB9 (by decide) (fun _ _ => rfl) (fun j hj => hd j (Nat.lt_of_lt_of_le hj (by decide)))) ?_ ?_
  · refine AllGhost.cons (ghost_load 1 rfl (by decide) (fun _ => by kernel_rfl) (fun _ => by kernel_rfl) (fun _ => by kernel_rfl) Tryd.underlying40 rfl (by first | (show _ = some c0.size; rw [hz0]; exact info40) | (show _ = some c1.size; rw [hz1]; exact info40))) ?_
    refine AllGhost.cons (ghost_call (v := arr a) (by decide) (fun _ => by kernel_rfl) (fun _ => by kernel_rfl) enter20 #[.agg c0] (fun _ => by kernel_rfl) (fun w' h' => KA w' (VV.out.below h'.old VV.out.big))) ?_
    refine AllGhost.cons (ghost_load 0 rfl (by decide) (fun _ => by kernel_rfl) (fun _ => by kernel_rfl) (fun _ => by kernel_rfl) Tryd.underlying40 rfl (by first | (show _ = some c0.size; rw [hz0]; exact info40) | (show _ = some c1.size; rw [hz1]; exact info40))) ?_
    refine AllGhost.cons (ghost_call (v := arr b) (by decide) (fun _ => by kernel_rfl) (fun _ => by kernel_rfl) enter20 #[.agg c1] (fun _ => by kernel_rfl) (fun w' h' => KB w' (VV.out.below h'.old VV.out.big))) ?_
    refine AllGhost.cons (ghost_make 0 (by decide) rfl (fun _ => by kernel_rfl) (fun _ _ => by kernel_rfl) (fun _ _ => run_alloc26)) ?_
    refine AllGhost.cons (ghost_make 1 (by decide) rfl (fun _ => by kernel_rfl) (fun _ _ => by kernel_rfl) (fun _ _ => run_alloc26)) ?_
    refine AllGhost.cons (ghost_fill 0 (by decide) rfl (fun _ => by kernel_rfl) (fun _ => by kernel_rfl) (fun _ => by kernel_rfl) (fun _ => by kernel_rfl) info26 (one_el _) (by kernel_rfl)) ?_
    refine AllGhost.cons (ghost_fill 1 (by decide) rfl (fun _ => by kernel_rfl) (fun _ => by kernel_rfl) (fun _ => by kernel_rfl) (fun _ => by kernel_rfl) info26 (one_el _) (by kernel_rfl)) ?_
    exact AllGhost.nil
  intro g w10 g11
  have h12 : HA w [(g 5, 26, el b), (g 4, 26, el a), (q4, 40, c1), (q1, 40, c0)] w10 := g11.two
  clear g11 eB9
  generalize g 4 = q13 at h12 ⊢
  generalize g 5 = q14 at h12 ⊢
  clear g
  refine then_at (F := ⟨(.agg c0 :: .agg c1 :: pt q1 :: pt q4 :: .bool false :: pt q13 :: pt q14 :: un :: un :: un :: un :: un :: un :: un :: un :: un :: un :: un :: .bool true :: .bool false :: .agg c0 :: arr a :: .agg c1 :: arr b :: List.replicate 101 un).toArray, []⟩) (by kernel_rfl) ?_
  refine wp_seq ?_
  -- region 4
  refine wl_region ?_
  refine wl_call (v := arr 0) h12 (by kernel_rfl) enter17 #[iN .u32 0] (by kernel_rfl) (Small_any 0 (by decide) w10) ?_
  intro w15 h16
  refine wl_make h16 26 (by kernel_rfl) run_alloc26 ?_
  intro q17 w18 h19
  refine wl_fill (c' := el 0) h19 0 rfl (by kernel_rfl) (by kernel_rfl) (by kernel_rfl) rfl info26 (one_el _) ?_
  intro w20 (h21 : HA w [(q17, 26, el 0), (q14, 26, el b), (q13, 26, el a), (q4, 40, c1), (q1, 40, c0)] w20)
  refine wl_nil ?_
  refine then_at (F := ⟨(.agg c0 :: .agg c1 :: pt q1 :: pt q4 :: .bool false :: pt q13 :: pt q14 :: pt q17 :: un :: un :: un :: un :: un :: un :: un :: un :: un :: un :: .bool true :: .bool false :: .agg c0 :: arr a :: .agg c1 :: arr b :: arr 0 :: List.replicate 100 un).toArray, []⟩) (by kernel_rfl) ?_
  refine wp_seq ?_
  -- region 5
  refine wl_region ?_
  refine wl_load h21 2 rfl (by kernel_rfl) (by kernel_rfl) Tryd.underlying26 rfl info26 ?_
  refine wl_load h21 2 rfl (by kernel_rfl) (by kernel_rfl) Tryd.underlying26 rfl info26 ?_
  refine wl_call (v := arr (mulP a a)) h21 (by kernel_rfl) enter26 #[arr a, arr a] (by kernel_rfl) (Mul_any a a ha ha w20 (VV.out.below h21.old VV.out.big)) ?_
  intro w22 h23
  refine wl_call (v := .tuple #[arr r, .bool true]) h23 (by kernel_rfl) enter31 #[arr (mulP a a)] (by kernel_rfl) (Root_yes rfl (mulP_lt _ _) hr w22 (VV.out.below h23.old VV.out.big)) ?_
  intro w24 h25
  refine wl_val (.tuple #[arr r, .bool true]) (by kernel_rfl) (by kernel_rfl) ?_
  refine wl_val (arr r) (by kernel_rfl) (by kernel_rfl) ?_
  refine wl_val (.bool true) (by kernel_rfl) (by kernel_rfl) ?_
  refine wl_make h25 26 (by kernel_rfl) run_alloc26 ?_
  intro q26 w27 h28
  refine wl_fill (c' := el r) h28 0 rfl (by kernel_rfl) (by kernel_rfl) (by kernel_rfl) rfl info26 (one_el _) ?_
  intro w29 (h30 : HA w [(q26, 26, el r), (q17, 26, el 0), (q14, 26, el b), (q13, 26, el a), (q4, 40, c1), (q1, 40, c0)] w29)
  refine wl_val (.bool true) (by kernel_rfl) (by kernel_rfl) ?_
  refine wl_nil ?_
  refine then_at (F := ⟨(.agg c0 :: .agg c1 :: pt q1 :: pt q4 :: .bool false :: pt q13 :: pt q14 :: pt q17 :: pt q26 :: .bool true :: un :: un :: un :: un :: un :: un :: un :: un :: .bool true :: .bool false :: .agg c0 :: arr a :: .agg c1 :: arr b :: arr 0 :: .tuple #[arr r, .bool true] :: arr a :: arr a :: arr (mulP a a) :: .tuple #[arr r, .bool true] :: arr r :: .bool true :: List.replicate 93 un).toArray, []⟩) (by kernel_rfl) ?_
  refine wp_seq ?_
  refine wp_seq ?_
  -- region 6, two ways
  refine wp_meet (fun A w' => ∃ u : Nat → Value, A = ⟨(.agg c0 :: .agg c1 :: pt q1 :: pt q4 :: .bool false :: pt q13 :: pt q14 :: pt q17 :: pt q26 :: .bool true :: un :: un :: un :: un :: un :: un :: un :: un :: .bool true :: .bool false :: .agg c0 :: arr a :: .agg c1 :: arr b :: arr 0 :: .tuple #[arr r, .bool true] :: arr a :: arr a :: arr (mulP a a) :: .tuple #[arr r, .bool true] :: arr r :: .bool true :: u 32 :: u 33 :: u 34 :: u 35 :: u 36 :: u 37 :: u 38 :: u 39 :: u 40 :: u 41 :: u 42 :: u 43 :: u 44 :: u 45 :: u 46 :: u 47 :: u 48 :: u 49 :: .bool false :: List.replicate 74 un).toArray, []⟩ ∧ HA w [(q26, 26, el r), (q17, 26, el 0), (q14, 26, el b), (q13, 26, el a), (q4, 40, c1), (q1, 40, c0)] w') ?_ ?_
  · rcases hR with hR | ⟨hR, hR'⟩
    · -- region 6
      refine wp_region_sure ⟨(.agg c0 :: .agg c1 :: pt q1 :: pt q4 :: .bool false :: pt q13 :: pt q14 :: pt q17 :: pt q26 :: .bool true :: un :: un :: un :: un :: un :: un :: un :: un :: .bool true :: .bool false :: .agg c0 :: arr a :: .agg c1 :: arr b :: arr 0 :: .tuple #[arr r, .bool true] :: arr a :: arr a :: arr (mulP a a) :: .tuple #[arr r, .bool true] :: arr r :: .bool true :: .bool true :: .bool false :: .bool false :: arr r :: .bool false :: .bool false :: .bool false :: arr r :: arr a :: .bool true :: .bool false :: .bool false :: un :: un :: un :: un :: un :: .bool false :: .bool false :: List.replicate 74 un).toArray, []⟩ (HA w [(q26, 26, el r), (q17, 26, el 0), (q14, 26, el b), (q13, 26, el a), (q4, 40, c1), (q1, 40, c0)]) [.bool true, .bool false, .bool false, arr r, .bool false, .bool false, .bool false, arr r, arr a, .bool true, .bool false, .bool false, undef, undef, undef, undef, undef, .bool false, .bool false] (by kernel_rfl) (by kernel_rfl) (by kernel_rfl) (by kernel_rfl) (fun _ _ _ h => h) h30.drew ?_ ?_
      · refine AllSure.cons (OpSure.take (v := .bool true) (by kernel_rfl) (by kernel_rfl) (fun _ _ => (by kernel_rfl))) ?_
        refine AllSure.cons (OpSure.take (v := .bool false) (by kernel_rfl) (by kernel_rfl) (fun _ _ => (by kernel_rfl))) ?_
        refine AllSure.cons (OpSure.take (v := .bool false) (by kernel_rfl) (by kernel_rfl) (fun _ _ => (by kernel_rfl))) ?_
        refine AllSure.cons (OpSure.take (v := arr r) (by kernel_rfl) (by kernel_rfl) (fun _ h => run_load_blk (by kernel_rfl) (h.get 0 rfl) Tryd.underlying26 rfl info26)) ?_
        refine AllSure.cons (sure_call (v := .bool false) (by kernel_rfl) (by kernel_rfl) enter15 HA.keep #[arr r] (by kernel_rfl) (fun w' h' => Odd_no r hr2 w')) ?_
        refine AllSure.cons (OpSure.take (v := .bool false) (by kernel_rfl) (by kernel_rfl) (fun _ _ => (by kernel_rfl))) ?_
        refine AllSure.cons (OpSure.take (v := .bool false) (by kernel_rfl) (by kernel_rfl) (fun _ _ => (by kernel_rfl))) ?_
        refine AllSure.cons (OpSure.take (v := arr r) (by kernel_rfl) (by kernel_rfl) (fun _ h => run_load_blk (by kernel_rfl) (h.get 0 rfl) Tryd.underlying26 rfl info26)) ?_
        refine AllSure.cons (OpSure.take (v := arr a) (by kernel_rfl) (by kernel_rfl) (fun _ h => run_load_blk (by kernel_rfl) (h.get 3 rfl) Tryd.underlying26 rfl info26)) ?_
        refine AllSure.cons (sure_call (v := .bool true) (by kernel_rfl) (by kernel_rfl) enter30 HA.keep #[arr r, arr a] (by kernel_rfl) (fun w' h' => Same_yes r a hrP ha hR w')) ?_
        refine AllSure.cons (OpSure.take (v := .bool false) (by kernel_rfl) (by kernel_rfl) (fun _ _ => (by kernel_rfl))) ?_
        refine AllSure.cons (OpSure.take (v := .bool false) (by kernel_rfl) (by kernel_rfl) (fun _ _ => (by kernel_rfl))) ?_
        refine AllSure.cons (OpSure.skip (by kernel_rfl) (by kernel_rfl)) ?_
        refine AllSure.cons (OpSure.skip (by kernel_rfl) (by kernel_rfl)) ?_
        refine AllSure.cons (OpSure.skip (by kernel_rfl) (by kernel_rfl)) ?_
        refine AllSure.cons (OpSure.skip (by kernel_rfl) (by kernel_rfl)) ?_
        refine AllSure.cons (OpSure.skip (by kernel_rfl) (by kernel_rfl)) ?_
        refine AllSure.cons (OpSure.take (v := .bool false) (by kernel_rfl) (by kernel_rfl) (fun _ _ => (by kernel_rfl))) ?_
        refine AllSure.cons (OpSure.take (v := .bool false) (by kernel_rfl) (by kernel_rfl) (fun _ _ => (by kernel_rfl))) ?_
        exact AllSure.nil
      intro w31 h32
      exact then_I ⟨fun i => ([(32, .bool true), (33, .bool false), (34, .bool false), (35, arr r), (36, .bool false), (37, .bool false), (38, .bool false), (39, arr r), (40, arr a), (41, .bool true), (42, .bool false), (43, .bool false), (44, undef), (45, undef), (46, undef), (47, undef), (48, undef), (49, .bool false)].find? (·.1 == i)).elim undef (·.2), by kernel_rfl, h32⟩
    · -- region 6
      refine wp_region_sure ⟨(.agg c0 :: .agg c1 :: pt q1 :: pt q4 :: .bool false :: pt q13 :: pt q14 :: pt q17 :: pt q26 :: .bool true :: un :: un :: un :: un :: un :: un :: un :: un :: .bool true :: .bool false :: .agg c0 :: arr a :: .agg c1 :: arr b :: arr 0 :: .tuple #[arr r, .bool true] :: arr a :: arr a :: arr (mulP a a) :: .tuple #[arr r, .bool true] :: arr r :: .bool true :: .bool true :: .bool false :: .bool false :: arr r :: .bool false :: .bool false :: .bool false :: arr r :: arr a :: .bool false :: .bool true :: .bool true :: arr r :: arr a :: arr (negP a) :: .bool true :: .bool false :: .bool false :: .bool false :: List.replicate 74 un).toArray, []⟩ (HA w [(q26, 26, el r), (q17, 26, el 0), (q14, 26, el b), (q13, 26, el a), (q4, 40, c1), (q1, 40, c0)]) [.bool true, .bool false, .bool false, arr r, .bool false, .bool false, .bool false, arr r, arr a, .bool false, .bool true, .bool true, arr r, arr a, arr (negP a), .bool true, .bool false, .bool false, .bool false] (by kernel_rfl) (by kernel_rfl) (by kernel_rfl) (by kernel_rfl) (fun _ _ _ h => h) h30.drew ?_ ?_
      · refine AllSure.cons (OpSure.take (v := .bool true) (by kernel_rfl) (by kernel_rfl) (fun _ _ => (by kernel_rfl))) ?_
        refine AllSure.cons (OpSure.take (v := .bool false) (by kernel_rfl) (by kernel_rfl) (fun _ _ => (by kernel_rfl))) ?_
        refine AllSure.cons (OpSure.take (v := .bool false) (by kernel_rfl) (by kernel_rfl) (fun _ _ => (by kernel_rfl))) ?_
        refine AllSure.cons (OpSure.take (v := arr r) (by kernel_rfl) (by kernel_rfl) (fun _ h => run_load_blk (by kernel_rfl) (h.get 0 rfl) Tryd.underlying26 rfl info26)) ?_
        refine AllSure.cons (sure_call (v := .bool false) (by kernel_rfl) (by kernel_rfl) enter15 HA.keep #[arr r] (by kernel_rfl) (fun w' h' => Odd_no r hr2 w')) ?_
        refine AllSure.cons (OpSure.take (v := .bool false) (by kernel_rfl) (by kernel_rfl) (fun _ _ => (by kernel_rfl))) ?_
        refine AllSure.cons (OpSure.take (v := .bool false) (by kernel_rfl) (by kernel_rfl) (fun _ _ => (by kernel_rfl))) ?_
        refine AllSure.cons (OpSure.take (v := arr r) (by kernel_rfl) (by kernel_rfl) (fun _ h => run_load_blk (by kernel_rfl) (h.get 0 rfl) Tryd.underlying26 rfl info26)) ?_
        refine AllSure.cons (OpSure.take (v := arr a) (by kernel_rfl) (by kernel_rfl) (fun _ h => run_load_blk (by kernel_rfl) (h.get 3 rfl) Tryd.underlying26 rfl info26)) ?_
        refine AllSure.cons (sure_call (v := .bool false) (by kernel_rfl) (by kernel_rfl) enter30 HA.keep #[arr r, arr a] (by kernel_rfl) (fun w' h' => Same_no r a hrP ha hR w')) ?_
        refine AllSure.cons (OpSure.take (v := .bool true) (by kernel_rfl) (by kernel_rfl) (fun _ _ => (by kernel_rfl))) ?_
        refine AllSure.cons (OpSure.take (v := .bool true) (by kernel_rfl) (by kernel_rfl) (fun _ _ => (by kernel_rfl))) ?_
        refine AllSure.cons (OpSure.take (v := arr r) (by kernel_rfl) (by kernel_rfl) (fun _ h => run_load_blk (by kernel_rfl) (h.get 0 rfl) Tryd.underlying26 rfl info26)) ?_
        refine AllSure.cons (OpSure.take (v := arr a) (by kernel_rfl) (by kernel_rfl) (fun _ h => run_load_blk (by kernel_rfl) (h.get 3 rfl) Tryd.underlying26 rfl info26)) ?_
        refine AllSure.cons (sure_call (v := arr (negP a)) (by kernel_rfl) (by kernel_rfl) enter28 HA.keep #[arr a] (by kernel_rfl) (fun w' h' => Neg_any a ha w' (VV.out.below h'.old VV.out.big))) ?_
        refine AllSure.cons (sure_call (v := .bool true) (by kernel_rfl) (by kernel_rfl) enter30 HA.keep #[arr r, arr (negP a)] (by kernel_rfl) (fun w' h' => Same_yes r (negP a) hrP (negP_lt _) hR' w')) ?_
        refine AllSure.cons (OpSure.take (v := .bool false) (by kernel_rfl) (by kernel_rfl) (fun _ _ => (by kernel_rfl))) ?_
        refine AllSure.cons (OpSure.take (v := .bool false) (by kernel_rfl) (by kernel_rfl) (fun _ _ => (by kernel_rfl))) ?_
        refine AllSure.cons (OpSure.take (v := .bool false) (by kernel_rfl) (by kernel_rfl) (fun _ _ => (by kernel_rfl))) ?_
        exact AllSure.nil
      intro w33 h34
      exact then_I ⟨fun i => ([(32, .bool true), (33, .bool false), (34, .bool false), (35, arr r), (36, .bool false), (37, .bool false), (38, .bool false), (39, arr r), (40, arr a), (41, .bool false), (42, .bool true), (43, .bool true), (44, arr r), (45, arr a), (46, arr (negP a)), (47, .bool true), (48, .bool false), (49, .bool false)].find? (·.1 == i)).elim undef (·.2), by kernel_rfl, h34⟩
  rintro _ w35 ⟨u, rfl, h36⟩
  refine wp_cond_false (by kernel_rfl) ?_
  refine wp_skip ?_
  refine then_at (F := ⟨(.agg c0 :: .agg c1 :: pt q1 :: pt q4 :: .bool false :: pt q13 :: pt q14 :: pt q17 :: pt q26 :: .bool true :: un :: un :: un :: un :: un :: un :: un :: un :: .bool true :: .bool false :: .agg c0 :: arr a :: .agg c1 :: arr b :: arr 0 :: .tuple #[arr r, .bool true] :: arr a :: arr a :: arr (mulP a a) :: .tuple #[arr r, .bool true] :: arr r :: .bool true :: u 32 :: u 33 :: u 34 :: u 35 :: u 36 :: u 37 :: u 38 :: u 39 :: u 40 :: u 41 :: u 42 :: u 43 :: u 44 :: u 45 :: u 46 :: u 47 :: u 48 :: u 49 :: .bool false :: List.replicate 74 un).toArray, []⟩) (by kernel_rfl) ?_
  refine wp_seq ?_
  -- region 8
  refine wl_region ?_
  refine wl_load h36 3 rfl (by kernel_rfl) (by kernel_rfl) Tryd.underlying26 rfl info26 ?_
  refine wl_call (v := .tuple #[arr 0, .bool false]) h36 (by kernel_rfl) enter31 #[arr a] (by kernel_rfl) (Root_no rfl ha rt1 w35 (VV.out.below h36.old VV.out.big)) ?_
  intro w37 h38
  refine wl_val (.tuple #[arr 0, .bool false]) (by kernel_rfl) (by kernel_rfl) ?_
  refine wl_val (arr 0) (by kernel_rfl) (by kernel_rfl) ?_
  refine wl_val (.bool false) (by kernel_rfl) (by kernel_rfl) ?_
  refine wl_make h38 26 (by kernel_rfl) run_alloc26 ?_
  intro q39 w40 h41
  refine wl_fill (c' := el 0) h41 0 rfl (by kernel_rfl) (by kernel_rfl) (by kernel_rfl) rfl info26 (one_el _) ?_
  intro w42 (h43 : HA w [(q39, 26, el 0), (q26, 26, el r), (q17, 26, el 0), (q14, 26, el b), (q13, 26, el a), (q4, 40, c1), (q1, 40, c0)] w42)
  refine wl_val (.bool false) (by kernel_rfl) (by kernel_rfl) ?_
  refine wl_nil ?_
  refine then_at (F := ⟨(.agg c0 :: .agg c1 :: pt q1 :: pt q4 :: .bool false :: pt q13 :: pt q14 :: pt q17 :: pt q26 :: .bool true :: pt q39 :: .bool false :: un :: un :: un :: un :: un :: un :: .bool true :: .bool false :: .agg c0 :: arr a :: .agg c1 :: arr b :: arr 0 :: .tuple #[arr r, .bool true] :: arr a :: arr a :: arr (mulP a a) :: .tuple #[arr r, .bool true] :: arr r :: .bool true :: u 32 :: u 33 :: u 34 :: u 35 :: u 36 :: u 37 :: u 38 :: u 39 :: u 40 :: u 41 :: u 42 :: u 43 :: u 44 :: u 45 :: u 46 :: u 47 :: u 48 :: u 49 :: .bool false :: .tuple #[arr 0, .bool false] :: arr a :: .tuple #[arr 0, .bool false] :: arr 0 :: .bool false :: List.replicate 69 un).toArray, []⟩) (by kernel_rfl) ?_
  refine wp_seq ?_
  -- region 9
  refine wl_region ?_
  refine wl_load h43 4 rfl (by kernel_rfl) (by kernel_rfl) Tryd.underlying26 rfl info26 ?_
  refine wl_load h43 4 rfl (by kernel_rfl) (by kernel_rfl) Tryd.underlying26 rfl info26 ?_
  refine wl_call (v := arr (addP a a)) h43 (by kernel_rfl) enter22 #[arr a, arr a] (by kernel_rfl) (Add_any a a ha ha w42 (VV.out.below h43.old VV.out.big)) ?_
  intro w44 h45
  refine wl_call (v := .tuple #[arr t, .bool true]) h45 (by kernel_rfl) enter31 #[arr (addP a a)] (by kernel_rfl) (Root_yes rfl (addP_lt _ _) rt2 w44 (VV.out.below h45.old VV.out.big)) ?_
  intro w46 h47
  refine wl_val (.tuple #[arr t, .bool true]) (by kernel_rfl) (by kernel_rfl) ?_
  refine wl_val (arr t) (by kernel_rfl) (by kernel_rfl) ?_
  refine wl_val (.bool true) (by kernel_rfl) (by kernel_rfl) ?_
  refine wl_make h47 26 (by kernel_rfl) run_alloc26 ?_
  intro q48 w49 h50
  refine wl_fill (c' := el t) h50 0 rfl (by kernel_rfl) (by kernel_rfl) (by kernel_rfl) rfl info26 (one_el _) ?_
  intro w51 (h52 : HA w [(q48, 26, el t), (q39, 26, el 0), (q26, 26, el r), (q17, 26, el 0), (q14, 26, el b), (q13, 26, el a), (q4, 40, c1), (q1, 40, c0)] w51)
  refine wl_val (.bool true) (by kernel_rfl) (by kernel_rfl) ?_
  refine wl_nil ?_
  refine then_at (F := ⟨(.agg c0 :: .agg c1 :: pt q1 :: pt q4 :: .bool false :: pt q13 :: pt q14 :: pt q17 :: pt q26 :: .bool true :: pt q39 :: .bool false :: pt q48 :: .bool true :: un :: un :: un :: un :: .bool true :: .bool false :: .agg c0 :: arr a :: .agg c1 :: arr b :: arr 0 :: .tuple #[arr r, .bool true] :: arr a :: arr a :: arr (mulP a a) :: .tuple #[arr r, .bool true] :: arr r :: .bool true :: u 32 :: u 33 :: u 34 :: u 35 :: u 36 :: u 37 :: u 38 :: u 39 :: u 40 :: u 41 :: u 42 :: u 43 :: u 44 :: u 45 :: u 46 :: u 47 :: u 48 :: u 49 :: .bool false :: .tuple #[arr 0, .bool false] :: arr a :: .tuple #[arr 0, .bool false] :: arr 0 :: .bool false :: .tuple #[arr t, .bool true] :: arr a :: arr a :: arr (addP a a) :: .tuple #[arr t, .bool true] :: arr t :: .bool true :: List.replicate 62 un).toArray, []⟩) (by kernel_rfl) ?_
  refine wp_seq ?_
  refine wp_seq ?_
  -- region 10
  refine wp_region_sure ⟨(.agg c0 :: .agg c1 :: pt q1 :: pt q4 :: .bool false :: pt q13 :: pt q14 :: pt q17 :: pt q26 :: .bool true :: pt q39 :: .bool false :: pt q48 :: .bool true :: un :: un :: un :: un :: .bool true :: .bool false :: .agg c0 :: arr a :: .agg c1 :: arr b :: arr 0 :: .tuple #[arr r, .bool true] :: arr a :: arr a :: arr (mulP a a) :: .tuple #[arr r, .bool true] :: arr r :: .bool true :: u 32 :: u 33 :: u 34 :: u 35 :: u 36 :: u 37 :: u 38 :: u 39 :: u 40 :: u 41 :: u 42 :: u 43 :: u 44 :: u 45 :: u 46 :: u 47 :: u 48 :: u 49 :: .bool false :: .tuple #[arr 0, .bool false] :: arr a :: .tuple #[arr 0, .bool false] :: arr 0 :: .bool false :: .tuple #[arr t, .bool true] :: arr a :: arr a :: arr (addP a a) :: .tuple #[arr t, .bool true] :: arr t :: .bool true :: .bool false :: .bool false :: un :: un :: un :: un :: un :: un :: .bool false :: .bool false :: .bool false :: .bool true :: .bool true :: arr 0 :: arr 0 :: .bool true :: .bool false :: .bool false :: .bool false :: List.replicate 43 un).toArray, []⟩ (HA w [(q48, 26, el t), (q39, 26, el 0), (q26, 26, el r), (q17, 26, el 0), (q14, 26, el b), (q13, 26, el a), (q4, 40, c1), (q1, 40, c0)]) [.bool false, .bool false, undef, undef, undef, undef, undef, undef, .bool false, .bool false, .bool false, .bool true, .bool true, arr 0, arr 0, .bool true, .bool false, .bool false, .bool false] (by kernel_rfl) (by kernel_rfl) (by kernel_rfl) (by kernel_rfl) (fun _ _ _ h => h) h52.drew ?_ ?_
  · refine AllSure.cons (OpSure.take (v := .bool false) (by kernel_rfl) (by kernel_rfl) (fun _ _ => (by kernel_rfl))) ?_
    refine AllSure.cons (OpSure.take (v := .bool false) (by kernel_rfl) (by kernel_rfl) (fun _ _ => (by kernel_rfl))) ?_
    refine AllSure.cons (OpSure.skip (by kernel_rfl) (by kernel_rfl)) ?_
    refine AllSure.cons (OpSure.skip (by kernel_rfl) (by kernel_rfl)) ?_
    refine AllSure.cons (OpSure.skip (by kernel_rfl) (by kernel_rfl)) ?_
    refine AllSure.cons (OpSure.skip (by kernel_rfl) (by kernel_rfl)) ?_
    refine AllSure.cons (OpSure.skip (by kernel_rfl) (by kernel_rfl)) ?_
    refine AllSure.cons (OpSure.skip (by kernel_rfl) (by kernel_rfl)) ?_
    refine AllSure.cons (OpSure.take (v := .bool false) (by kernel_rfl) (by kernel_rfl) (fun _ _ => (by kernel_rfl))) ?_
    refine AllSure.cons (OpSure.take (v := .bool false) (by kernel_rfl) (by kernel_rfl) (fun _ _ => (by kernel_rfl))) ?_
    refine AllSure.cons (OpSure.take (v := .bool false) (by kernel_rfl) (by kernel_rfl) (fun _ _ => (by kernel_rfl))) ?_
    refine AllSure.cons (OpSure.take (v := .bool true) (by kernel_rfl) (by kernel_rfl) (fun _ _ => (by kernel_rfl))) ?_
    refine AllSure.cons (OpSure.take (v := .bool true) (by kernel_rfl) (by kernel_rfl) (fun _ _ => (by kernel_rfl))) ?_
    refine AllSure.cons (OpSure.take (v := arr 0) (by kernel_rfl) (by kernel_rfl) (fun _ h => run_load_blk (by kernel_rfl) (h.get 1 rfl) Tryd.underlying26 rfl info26)) ?_
    refine AllSure.cons (OpSure.take (v := arr 0) (by kernel_rfl) (by kernel_rfl) (fun _ h => run_load_blk (by kernel_rfl) (h.get 3 rfl) Tryd.underlying26 rfl info26)) ?_
    refine AllSure.cons (sure_call (v := .bool true) (by kernel_rfl) (by kernel_rfl) enter30 HA.keep #[arr 0, arr 0] (by kernel_rfl) (fun w' h' => Same_yes 0 0 (by decide) (by decide) rfl w')) ?_
    refine AllSure.cons (OpSure.take (v := .bool false) (by kernel_rfl) (by kernel_rfl) (fun _ _ => (by kernel_rfl))) ?_
    refine AllSure.cons (OpSure.take (v := .bool false) (by kernel_rfl) (by kernel_rfl) (fun _ _ => (by kernel_rfl))) ?_
    refine AllSure.cons (OpSure.take (v := .bool false) (by kernel_rfl) (by kernel_rfl) (fun _ _ => (by kernel_rfl))) ?_
    exact AllSure.nil
  intro w53 h54
  refine then_at (F := ⟨(.agg c0 :: .agg c1 :: pt q1 :: pt q4 :: .bool false :: pt q13 :: pt q14 :: pt q17 :: pt q26 :: .bool true :: pt q39 :: .bool false :: pt q48 :: .bool true :: un :: un :: un :: un :: .bool true :: .bool false :: .agg c0 :: arr a :: .agg c1 :: arr b :: arr 0 :: .tuple #[arr r, .bool true] :: arr a :: arr a :: arr (mulP a a) :: .tuple #[arr r, .bool true] :: arr r :: .bool true :: u 32 :: u 33 :: u 34 :: u 35 :: u 36 :: u 37 :: u 38 :: u 39 :: u 40 :: u 41 :: u 42 :: u 43 :: u 44 :: u 45 :: u 46 :: u 47 :: u 48 :: u 49 :: .bool false :: .tuple #[arr 0, .bool false] :: arr a :: .tuple #[arr 0, .bool false] :: arr 0 :: .bool false :: .tuple #[arr t, .bool true] :: arr a :: arr a :: arr (addP a a) :: .tuple #[arr t, .bool true] :: arr t :: .bool true :: .bool false :: .bool false :: un :: un :: un :: un :: un :: un :: .bool false :: .bool false :: .bool false :: .bool true :: .bool true :: arr 0 :: arr 0 :: .bool true :: .bool false :: .bool false :: .bool false :: List.replicate 43 un).toArray, []⟩) (by kernel_rfl) ?_
  refine wp_cond_false (by kernel_rfl) ?_
  refine wp_skip ?_
  refine then_at (F := ⟨(.agg c0 :: .agg c1 :: pt q1 :: pt q4 :: .bool false :: pt q13 :: pt q14 :: pt q17 :: pt q26 :: .bool true :: pt q39 :: .bool false :: pt q48 :: .bool true :: un :: un :: un :: un :: .bool true :: .bool false :: .agg c0 :: arr a :: .agg c1 :: arr b :: arr 0 :: .tuple #[arr r, .bool true] :: arr a :: arr a :: arr (mulP a a) :: .tuple #[arr r, .bool true] :: arr r :: .bool true :: u 32 :: u 33 :: u 34 :: u 35 :: u 36 :: u 37 :: u 38 :: u 39 :: u 40 :: u 41 :: u 42 :: u 43 :: u 44 :: u 45 :: u 46 :: u 47 :: u 48 :: u 49 :: .bool false :: .tuple #[arr 0, .bool false] :: arr a :: .tuple #[arr 0, .bool false] :: arr 0 :: .bool false :: .tuple #[arr t, .bool true] :: arr a :: arr a :: arr (addP a a) :: .tuple #[arr t, .bool true] :: arr t :: .bool true :: .bool false :: .bool false :: un :: un :: un :: un :: un :: un :: .bool false :: .bool false :: .bool false :: .bool true :: .bool true :: arr 0 :: arr 0 :: .bool true :: .bool false :: .bool false :: .bool false :: List.replicate 43 un).toArray, []⟩) (by kernel_rfl) ?_
  refine wp_seq ?_
  refine wp_seq ?_
  -- region 12
  refine wl_region ?_
  refine wl_load h54 5 rfl (by kernel_rfl) (by kernel_rfl) Tryd.underlying26 rfl info26 ?_
  refine wl_load h54 3 rfl (by kernel_rfl) (by kernel_rfl) Tryd.underlying26 rfl info26 ?_
  refine wl_call (v := .bool false) h54 (by kernel_rfl) enter30 #[arr a, arr 0] (by kernel_rfl) (Same_no a 0 ha (by decide) hA w53) ?_
  intro w55 h56
  refine wl_val (.bool false) (by kernel_rfl) (by kernel_rfl) ?_
  refine wl_load h56 4 rfl (by kernel_rfl) (by kernel_rfl) Tryd.underlying26 rfl info26 ?_
  refine wl_load h56 3 rfl (by kernel_rfl) (by kernel_rfl) Tryd.underlying26 rfl info26 ?_
  refine wl_call (v := .bool true) h56 (by kernel_rfl) enter30 #[arr b, arr 0] (by kernel_rfl) (Same_yes b 0 hb (by decide) hB w55) ?_
  intro w57 h58
  refine wl_val (.bool true) (by kernel_rfl) (by kernel_rfl) ?_
  refine wl_nil ?_
  refine then_at (F := ⟨(.agg c0 :: .agg c1 :: pt q1 :: pt q4 :: .bool false :: pt q13 :: pt q14 :: pt q17 :: pt q26 :: .bool true :: pt q39 :: .bool false :: pt q48 :: .bool true :: un :: un :: un :: un :: .bool true :: .bool false :: .agg c0 :: arr a :: .agg c1 :: arr b :: arr 0 :: .tuple #[arr r, .bool true] :: arr a :: arr a :: arr (mulP a a) :: .tuple #[arr r, .bool true] :: arr r :: .bool true :: u 32 :: u 33 :: u 34 :: u 35 :: u 36 :: u 37 :: u 38 :: u 39 :: u 40 :: u 41 :: u 42 :: u 43 :: u 44 :: u 45 :: u 46 :: u 47 :: u 48 :: u 49 :: .bool false :: .tuple #[arr 0, .bool false] :: arr a :: .tuple #[arr 0, .bool false] :: arr 0 :: .bool false :: .tuple #[arr t, .bool true] :: arr a :: arr a :: arr (addP a a) :: .tuple #[arr t, .bool true] :: arr t :: .bool true :: .bool false :: .bool false :: un :: un :: un :: un :: un :: un :: .bool false :: .bool false :: .bool false :: .bool true :: .bool true :: arr 0 :: arr 0 :: .bool true :: .bool false :: .bool false :: .bool false :: arr a :: arr 0 :: .bool false :: .bool false :: arr b :: arr 0 :: .bool true :: .bool true :: List.replicate 35 un).toArray, []⟩) (by kernel_rfl) ?_
  refine wp_cond_true (by kernel_rfl) ?_
  refine wp_seq ?_
  -- region 13
  refine wl_region ?_
  refine wl_load h58 5 rfl (by kernel_rfl) (by kernel_rfl) Tryd.underlying26 rfl info26 ?_
  refine wl_load h58 3 rfl (by kernel_rfl) (by kernel_rfl) Tryd.underlying26 rfl info26 ?_
  refine wl_call (v := .bool false) h58 (by kernel_rfl) enter30 #[arr a, arr 0] (by kernel_rfl) (Same_no a 0 ha (by decide) hA w57) ?_
  intro w59 h60
  refine wl_val (.bool false) (by kernel_rfl) (by kernel_rfl) ?_
  refine wl_val (.bool false) (by kernel_rfl) (by kernel_rfl) ?_
  refine wl_skip (by kernel_rfl) ?_
  refine wl_val (.bool false) (by kernel_rfl) (by kernel_rfl) ?_
  refine wl_val (.bool true) (by kernel_rfl) (run_eqb false false (by kernel_rfl) (by kernel_rfl)) ?_
  refine wl_val (.bool true) (by kernel_rfl) (by kernel_rfl) ?_
  refine wl_skip (by kernel_rfl) ?_
  refine wl_skip (by kernel_rfl) ?_
  refine wl_skip (by kernel_rfl) ?_
  refine wl_val (.bool true) (by kernel_rfl) (by kernel_rfl) ?_
  refine wl_val (.bool true) (by kernel_rfl) (by kernel_rfl) ?_
  refine wl_nil ?_
  refine then_at (F := ⟨(.agg c0 :: .agg c1 :: pt q1 :: pt q4 :: .bool true :: pt q13 :: pt q14 :: pt q17 :: pt q26 :: .bool true :: pt q39 :: .bool false :: pt q48 :: .bool true :: un :: un :: un :: un :: .bool true :: .bool false :: .agg c0 :: arr a :: .agg c1 :: arr b :: arr 0 :: .tuple #[arr r, .bool true] :: arr a :: arr a :: arr (mulP a a) :: .tuple #[arr r, .bool true] :: arr r :: .bool true :: u 32 :: u 33 :: u 34 :: u 35 :: u 36 :: u 37 :: u 38 :: u 39 :: u 40 :: u 41 :: u 42 :: u 43 :: u 44 :: u 45 :: u 46 :: u 47 :: u 48 :: u 49 :: .bool false :: .tuple #[arr 0, .bool false] :: arr a :: .tuple #[arr 0, .bool false] :: arr 0 :: .bool false :: .tuple #[arr t, .bool true] :: arr a :: arr a :: arr (addP a a) :: .tuple #[arr t, .bool true] :: arr t :: .bool true :: .bool false :: .bool false :: un :: un :: un :: un :: un :: un :: .bool false :: .bool false :: .bool false :: .bool true :: .bool true :: arr 0 :: arr 0 :: .bool true :: .bool false :: .bool false :: .bool false :: arr a :: arr 0 :: .bool false :: .bool false :: arr b :: arr 0 :: .bool true :: .bool true :: arr a :: arr 0 :: .bool false :: .bool false :: .bool false :: un :: .bool false :: .bool true :: .bool true :: un :: un :: un :: .bool true :: List.replicate 22 un).toArray, []⟩) (by kernel_rfl) ?_
  refine wp_ret ?_
  repeat first | refine then_ret ?_ | refine block_ret ?_
  exact bodyPost_ret (v := .bool true) (by kernel_rfl) rfl ⟨rfl, h60.old⟩
set_option linter.unusedVariables false in
set_option maxRecDepth 100000 in
set_option maxHeartbeats 4000000 in
theorem sq_c1 (c0 c1 : Array Value) (a b r : Nat) (hz0 : c0.size = 32) (hz1 : c1.size = 32) (ha : a < P) (hb : b < P) (hr : rootP (mulP a a) = some r) (hr2 : r % 2 = 0) (hrP : r < P) (hR : r = a ∨ r ≠ a ∧ r = negP a) (hA : a ≠ 0) (hB : b ≠ 0) (s : Nat) (rt1 : rootP a = some s) (hss : mulP s s = a) (hsP : s < P) (rt2 : rootP (addP a a) = none) (o : Nat) (rt3 : rootP b = some o) (hoP : o < P) (p : Nat) (rt4 : rootP (mulP a b) = some p) (hpP : p < P)
    (KA : ∀ w, Vars w → Calls Tryd.prog 20 #[.agg c0] w fun e w' => e = .returned (arr a) ∧ Below w.heap.size w w')
    (KB : ∀ w, Vars w → Calls Tryd.prog 20 #[.agg c1] w fun e w' => e = .returned (arr b) ∧ Below w.heap.size w w') (w : World) (V : Vars w) :
    Calls Tryd.prog 8 #[.agg c0, .agg c1] w fun e w' => e = .returned (.bool true) ∧ Below w.heap.size w w' := by
  have VV := hide V
  have H0 := HA.start w
  clear V
  go_enter Tryd.func8, Tryd.ntmps8
  refine wp_seq ?_
  -- region 0
  refine wl_region ?_
  refine wl_make H0 40 (by kernel_rfl) (run_box40 (c := c0) (by kernel_rfl)) ?_
  intro q1 w2 h3
  refine wl_make h3 40 (by kernel_rfl) (run_box40 (c := c1) (by kernel_rfl)) ?_
  intro q4 w5 h6
  refine wl_val (.bool false) (by kernel_rfl) (by kernel_rfl) ?_
  refine wl_nil ?_
  refine then_at (F := ⟨(.agg c0 :: .agg c1 :: pt q1 :: pt q4 :: .bool false :: List.replicate 120 un).toArray, []⟩) (by kernel_rfl) ?_
  refine wp_seq ?_
  refine wp_seq ?_
  -- region 1
  refine wl_region ?_
  refine wl_call (v := .bool true) h6 (by kernel_rfl) enter19 #[] (by kernel_rfl) (works_any w5 (VV.out.below h6.old VV.out.big)) ?_
  intro w7 h8
  refine wl_val (.bool false) (by kernel_rfl) (by kernel_rfl) ?_
  refine wl_nil ?_
  refine then_at (F := ⟨(.agg c0 :: .agg c1 :: pt q1 :: pt q4 :: .bool false :: un :: un :: un :: un :: un :: un :: un :: un :: un :: un :: un :: un :: un :: .bool true :: .bool false :: List.replicate 105 un).toArray, []⟩) (by kernel_rfl) ?_
  refine wp_cond_false (by kernel_rfl) ?_
  refine wp_skip ?_
  refine then_at (F := ⟨(.agg c0 :: .agg c1 :: pt q1 :: pt q4 :: .bool false :: un :: un :: un :: un :: un :: un :: un :: un :: un :: un :: un :: un :: un :: .bool true :: .bool false :: List.replicate 105 un).toArray, []⟩) (by kernel_rfl) ?_
  refine wp_seq ?_
  -- region 3
  obtain ⟨B9, eB9⟩ : ∃ B, B = w7.heap.size := ⟨_, rfl⟩
  refine wp_region_ghost (fun g : Nat → Nat => (⟨(.agg c0 :: .agg c1 :: pt q1 :: pt q4 :: .bool false :: pt (g 4) :: pt (g 5) :: un :: un :: un :: un :: un :: un :: un :: un :: un :: un :: un :: .bool true :: .bool false :: .agg c0 :: arr a :: .agg c1 :: arr b :: List.replicate 101 un).toArray, []⟩ : Act)) (GS w [(q4, 40, c1), (q1, 40, c0)] B9 2 4 6 26 (el 0) (fun j => el ([a, b].getD j a))) [.agg c0, arr a, .agg c1, arr b, .pointer (some ⟨0, 0, none⟩), .pointer (some ⟨0, 0, none⟩), undef, undef] (by kernel_rfl) (by kernel_rfl) (by kernel_rfl) (by kernel_rfl) (fun _ _ _ _ h => h) (fun d hd => GS.start h8.drew eB9 (by decide) (fun _ _ => rfl) (fun j hj => hd j (Nat.lt_of_lt_of_le hj (by decide)))) ?_ ?_
  · refine AllGhost.cons (ghost_load 1 rfl (by decide) (fun _ => by kernel_rfl) (fun _ => by kernel_rfl) (fun _ => by kernel_rfl) Tryd.underlying40 rfl (by first | (show _ = some c0.size; rw [hz0]; exact info40) | (show _ = some c1.size; rw [hz1]; exact info40))) ?_
    refine AllGhost.cons (ghost_call (v := arr a) (by decide) (fun _ => by kernel_rfl) (fun _ => by kernel_rfl) enter20 #[.agg c0] (fun _ => by kernel_rfl) (fun w' h' => KA w' (VV.out.below h'.old VV.out.big))) ?_
    refine AllGhost.cons (ghost_load 0 rfl (by decide) (fun _ => by kernel_rfl) (fun _ => by kernel_rfl) (fun _ => by kernel_rfl) Tryd.underlying40 rfl (by first | (show _ = some c0.size; rw [hz0]; exact info40) | (show _ = some c1.size; rw [hz1]; exact info40))) ?_
    refine AllGhost.cons (ghost_call (v := arr b) (by decide) (fun _ => by kernel_rfl) (fun _ => by kernel_rfl) enter20 #[.agg c1] (fun _ => by kernel_rfl) (fun w' h' => KB w' (VV.out.below h'.old VV.out.big))) ?_
    refine AllGhost.cons (ghost_make 0 (by decide) rfl (fun _ => by kernel_rfl) (fun _ _ => by kernel_rfl) (fun _ _ => run_alloc26)) ?_
    refine AllGhost.cons (ghost_make 1 (by decide) rfl (fun _ => by kernel_rfl) (fun _ _ => by kernel_rfl) (fun _ _ => run_alloc26)) ?_
    refine AllGhost.cons (ghost_fill 0 (by decide) rfl (fun _ => by kernel_rfl) (fun _ => by kernel_rfl) (fun _ => by kernel_rfl) (fun _ => by kernel_rfl) info26 (one_el _) (by kernel_rfl)) ?_
    refine AllGhost.cons (ghost_fill 1 (by decide) rfl (fun _ => by kernel_rfl) (fun _ => by kernel_rfl) (fun _ => by kernel_rfl) (fun _ => by kernel_rfl) info26 (one_el _) (by kernel_rfl)) ?_
    exact AllGhost.nil
  intro g w10 g11
  have h12 : HA w [(g 5, 26, el b), (g 4, 26, el a), (q4, 40, c1), (q1, 40, c0)] w10 := g11.two
  clear g11 eB9
  generalize g 4 = q13 at h12 ⊢
  generalize g 5 = q14 at h12 ⊢
  clear g
  refine then_at (F := ⟨(.agg c0 :: .agg c1 :: pt q1 :: pt q4 :: .bool false :: pt q13 :: pt q14 :: un :: un :: un :: un :: un :: un :: un :: un :: un :: un :: un :: .bool true :: .bool false :: .agg c0 :: arr a :: .agg c1 :: arr b :: List.replicate 101 un).toArray, []⟩) (by kernel_rfl) ?_
  refine wp_seq ?_
  -- region 4
  refine wl_region ?_
  refine wl_call (v := arr 0) h12 (by kernel_rfl) enter17 #[iN .u32 0] (by kernel_rfl) (Small_any 0 (by decide) w10) ?_
  intro w15 h16
  refine wl_make h16 26 (by kernel_rfl) run_alloc26 ?_
  intro q17 w18 h19
  refine wl_fill (c' := el 0) h19 0 rfl (by kernel_rfl) (by kernel_rfl) (by kernel_rfl) rfl info26 (one_el _) ?_
  intro w20 (h21 : HA w [(q17, 26, el 0), (q14, 26, el b), (q13, 26, el a), (q4, 40, c1), (q1, 40, c0)] w20)
  refine wl_nil ?_
  refine then_at (F := ⟨(.agg c0 :: .agg c1 :: pt q1 :: pt q4 :: .bool false :: pt q13 :: pt q14 :: pt q17 :: un :: un :: un :: un :: un :: un :: un :: un :: un :: un :: .bool true :: .bool false :: .agg c0 :: arr a :: .agg c1 :: arr b :: arr 0 :: List.replicate 100 un).toArray, []⟩) (by kernel_rfl) ?_
  refine wp_seq ?_
  -- region 5
  refine wl_region ?_
  refine wl_load h21 2 rfl (by kernel_rfl) (by kernel_rfl) Tryd.underlying26 rfl info26 ?_
  refine wl_load h21 2 rfl (by kernel_rfl) (by kernel_rfl) Tryd.underlying26 rfl info26 ?_
  refine wl_call (v := arr (mulP a a)) h21 (by kernel_rfl) enter26 #[arr a, arr a] (by kernel_rfl) (Mul_any a a ha ha w20 (VV.out.below h21.old VV.out.big)) ?_
  intro w22 h23
  refine wl_call (v := .tuple #[arr r, .bool true]) h23 (by kernel_rfl) enter31 #[arr (mulP a a)] (by kernel_rfl) (Root_yes rfl (mulP_lt _ _) hr w22 (VV.out.below h23.old VV.out.big)) ?_
  intro w24 h25
  refine wl_val (.tuple #[arr r, .bool true]) (by kernel_rfl) (by kernel_rfl) ?_
  refine wl_val (arr r) (by kernel_rfl) (by kernel_rfl) ?_
  refine wl_val (.bool true) (by kernel_rfl) (by kernel_rfl) ?_
  refine wl_make h25 26 (by kernel_rfl) run_alloc26 ?_
  intro q26 w27 h28
  refine wl_fill (c' := el r) h28 0 rfl (by kernel_rfl) (by kernel_rfl) (by kernel_rfl) rfl info26 (one_el _) ?_
  intro w29 (h30 : HA w [(q26, 26, el r), (q17, 26, el 0), (q14, 26, el b), (q13, 26, el a), (q4, 40, c1), (q1, 40, c0)] w29)
  refine wl_val (.bool true) (by kernel_rfl) (by kernel_rfl) ?_
  refine wl_nil ?_
  refine then_at (F := ⟨(.agg c0 :: .agg c1 :: pt q1 :: pt q4 :: .bool false :: pt q13 :: pt q14 :: pt q17 :: pt q26 :: .bool true :: un :: un :: un :: un :: un :: un :: un :: un :: .bool true :: .bool false :: .agg c0 :: arr a :: .agg c1 :: arr b :: arr 0 :: .tuple #[arr r, .bool true] :: arr a :: arr a :: arr (mulP a a) :: .tuple #[arr r, .bool true] :: arr r :: .bool true :: List.replicate 93 un).toArray, []⟩) (by kernel_rfl) ?_
  refine wp_seq ?_
  refine wp_seq ?_
  -- region 6, two ways
  refine wp_meet (fun A w' => ∃ u : Nat → Value, A = ⟨(.agg c0 :: .agg c1 :: pt q1 :: pt q4 :: .bool false :: pt q13 :: pt q14 :: pt q17 :: pt q26 :: .bool true :: un :: un :: un :: un :: un :: un :: un :: un :: .bool true :: .bool false :: .agg c0 :: arr a :: .agg c1 :: arr b :: arr 0 :: .tuple #[arr r, .bool true] :: arr a :: arr a :: arr (mulP a a) :: .tuple #[arr r, .bool true] :: arr r :: .bool true :: u 32 :: u 33 :: u 34 :: u 35 :: u 36 :: u 37 :: u 38 :: u 39 :: u 40 :: u 41 :: u 42 :: u 43 :: u 44 :: u 45 :: u 46 :: u 47 :: u 48 :: u 49 :: .bool false :: List.replicate 74 un).toArray, []⟩ ∧ HA w [(q26, 26, el r), (q17, 26, el 0), (q14, 26, el b), (q13, 26, el a), (q4, 40, c1), (q1, 40, c0)] w') ?_ ?_
  · rcases hR with hR | ⟨hR, hR'⟩
    · -- region 6
      refine wp_region_sure ⟨(.agg c0 :: .agg c1 :: pt q1 :: pt q4 :: .bool false :: pt q13 :: pt q14 :: pt q17 :: pt q26 :: .bool true :: un :: un :: un :: un :: un :: un :: un :: un :: .bool true :: .bool false :: .agg c0 :: arr a :: .agg c1 :: arr b :: arr 0 :: .tuple #[arr r, .bool true] :: arr a :: arr a :: arr (mulP a a) :: .tuple #[arr r, .bool true] :: arr r :: .bool true :: .bool true :: .bool false :: .bool false :: arr r :: .bool false :: .bool false :: .bool false :: arr r :: arr a :: .bool true :: .bool false :: .bool false :: un :: un :: un :: un :: un :: .bool false :: .bool false :: List.replicate 74 un).toArray, []⟩ (HA w [(q26, 26, el r), (q17, 26, el 0), (q14, 26, el b), (q13, 26, el a), (q4, 40, c1), (q1, 40, c0)]) [.bool true, .bool false, .bool false, arr r, .bool false, .bool false, .bool false, arr r, arr a, .bool true, .bool false, .bool false, undef, undef, undef, undef, undef, .bool false, .bool false] (by kernel_rfl) (by kernel_rfl) (by kernel_rfl) (by kernel_rfl) (fun _ _ _ h => h) h30.drew ?_ ?_
      · refine AllSure.cons (OpSure.take (v := .bool true) (by kernel_rfl) (by kernel_rfl) (fun _ _ => (by kernel_rfl))) ?_
        refine AllSure.cons (OpSure.take (v := .bool false) (by kernel_rfl) (by kernel_rfl) (fun _ _ => (by kernel_rfl))) ?_
        refine AllSure.cons (OpSure.take (v := .bool false) (by kernel_rfl) (by kernel_rfl) (fun _ _ => (by kernel_rfl))) ?_
        refine AllSure.cons (OpSure.take (v := arr r) (by kernel_rfl) (by kernel_rfl) (fun _ h => run_load_blk (by kernel_rfl) (h.get 0 rfl) Tryd.underlying26 rfl info26)) ?_
        refine AllSure.cons (sure_call (v := .bool false) (by kernel_rfl) (by kernel_rfl) enter15 HA.keep #[arr r] (by kernel_rfl) (fun w' h' => Odd_no r hr2 w')) ?_
        refine AllSure.cons (OpSure.take (v := .bool false) (by kernel_rfl) (by kernel_rfl) (fun _ _ => (by kernel_rfl))) ?_
        refine AllSure.cons (OpSure.take (v := .bool false) (by kernel_rfl) (by kernel_rfl) (fun _ _ => (by kernel_rfl))) ?_
        refine AllSure.cons (OpSure.take (v := arr r) (by kernel_rfl) (by kernel_rfl) (fun _ h => run_load_blk (by kernel_rfl) (h.get 0 rfl) Tryd.underlying26 rfl info26)) ?_
        refine AllSure.cons (OpSure.take (v := arr a) (by kernel_rfl) (by kernel_rfl) (fun _ h => run_load_blk (by kernel_rfl) (h.get 3 rfl) Tryd.underlying26 rfl info26)) ?_
        refine AllSure.cons (sure_call (v := .bool true) (by kernel_rfl) (by kernel_rfl) enter30 HA.keep #[arr r, arr a] (by kernel_rfl) (fun w' h' => Same_yes r a hrP ha hR w')) ?_
        refine AllSure.cons (OpSure.take (v := .bool false) (by kernel_rfl) (by kernel_rfl) (fun _ _ => (by kernel_rfl))) ?_
        refine AllSure.cons (OpSure.take (v := .bool false) (by kernel_rfl) (by kernel_rfl) (fun _ _ => (by kernel_rfl))) ?_
        refine AllSure.cons (OpSure.skip (by kernel_rfl) (by kernel_rfl)) ?_
        refine AllSure.cons (OpSure.skip (by kernel_rfl) (by kernel_rfl)) ?_
        refine AllSure.cons (OpSure.skip (by kernel_rfl) (by kernel_rfl)) ?_
        refine AllSure.cons (OpSure.skip (by kernel_rfl) (by kernel_rfl)) ?_
        refine AllSure.cons (OpSure.skip (by kernel_rfl) (by kernel_rfl)) ?_
        refine AllSure.cons (OpSure.take (v := .bool false) (by kernel_rfl) (by kernel_rfl) (fun _ _ => (by kernel_rfl))) ?_
        refine AllSure.cons (OpSure.take (v := .bool false) (by kernel_rfl) (by kernel_rfl) (fun _ _ => (by kernel_rfl))) ?_
        exact AllSure.nil
      intro w31 h32
      exact then_I ⟨fun i => ([(32, .bool true), (33, .bool false), (34, .bool false), (35, arr r), (36, .bool false), (37, .bool false), (38, .bool false), (39, arr r), (40, arr a), (41, .bool true), (42, .bool false), (43, .bool false), (44, undef), (45, undef), (46, undef), (47, undef), (48, undef), (49, .bool false)].find? (·.1 == i)).elim undef (·.2), by kernel_rfl, h32⟩
    · -- region 6
      refine wp_region_sure ⟨(.agg c0 :: .agg c1 :: pt q1 :: pt q4 :: .bool false :: pt q13 :: pt q14 :: pt q17 :: pt q26 :: .bool true :: un :: un :: un :: un :: un :: un :: un :: un :: .bool true :: .bool false :: .agg c0 :: arr a :: .agg c1 :: arr b :: arr 0 :: .tuple #[arr r, .bool true] :: arr a :: arr a :: arr (mulP a a) :: .tuple #[arr r, .bool true] :: arr r :: .bool true :: .bool true :: .bool false :: .bool false :: arr r :: .bool false :: .bool false :: .bool false :: arr r :: arr a :: .bool false :: .bool true :: .bool true :: arr r :: arr a :: arr (negP a) :: .bool true :: .bool false :: .bool false :: .bool false :: List.replicate 74 un).toArray, []⟩ (HA w [(q26, 26, el r), (q17, 26, el 0), (q14, 26, el b), (q13, 26, el a), (q4, 40, c1), (q1, 40, c0)]) [.bool true, .bool false, .bool false, arr r, .bool false, .bool false, .bool false, arr r, arr a, .bool false, .bool true, .bool true, arr r, arr a, arr (negP a), .bool true, .bool false, .bool false, .bool false] (by kernel_rfl) (by kernel_rfl) (by kernel_rfl) (by kernel_rfl) (fun _ _ _ h => h) h30.drew ?_ ?_
      · refine AllSure.cons (OpSure.take (v := .bool true) (by kernel_rfl) (by kernel_rfl) (fun _ _ => (by kernel_rfl))) ?_
        refine AllSure.cons (OpSure.take (v := .bool false) (by kernel_rfl) (by kernel_rfl) (fun _ _ => (by kernel_rfl))) ?_
        refine AllSure.cons (OpSure.take (v := .bool false) (by kernel_rfl) (by kernel_rfl) (fun _ _ => (by kernel_rfl))) ?_
        refine AllSure.cons (OpSure.take (v := arr r) (by kernel_rfl) (by kernel_rfl) (fun _ h => run_load_blk (by kernel_rfl) (h.get 0 rfl) Tryd.underlying26 rfl info26)) ?_
        refine AllSure.cons (sure_call (v := .bool false) (by kernel_rfl) (by kernel_rfl) enter15 HA.keep #[arr r] (by kernel_rfl) (fun w' h' => Odd_no r hr2 w')) ?_
        refine AllSure.cons (OpSure.take (v := .bool false) (by kernel_rfl) (by kernel_rfl) (fun _ _ => (by kernel_rfl))) ?_
        refine AllSure.cons (OpSure.take (v := .bool false) (by kernel_rfl) (by kernel_rfl) (fun _ _ => (by kernel_rfl))) ?_
        refine AllSure.cons (OpSure.take (v := arr r) (by kernel_rfl) (by kernel_rfl) (fun _ h => run_load_blk (by kernel_rfl) (h.get 0 rfl) Tryd.underlying26 rfl info26)) ?_
        refine AllSure.cons (OpSure.take (v := arr a) (by kernel_rfl) (by kernel_rfl) (fun _ h => run_load_blk (by kernel_rfl) (h.get 3 rfl) Tryd.underlying26 rfl info26)) ?_
        refine AllSure.cons (sure_call (v := .bool false) (by kernel_rfl) (by kernel_rfl) enter30 HA.keep #[arr r, arr a] (by kernel_rfl) (fun w' h' => Same_no r a hrP ha hR w')) ?_
        refine AllSure.cons (OpSure.take (v := .bool true) (by kernel_rfl) (by kernel_rfl) (fun _ _ => (by kernel_rfl))) ?_
        refine AllSure.cons (OpSure.take (v := .bool true) (by kernel_rfl) (by kernel_rfl) (fun _ _ => (by kernel_rfl))) ?_
        refine AllSure.cons (OpSure.take (v := arr r) (by kernel_rfl) (by kernel_rfl) (fun _ h => run_load_blk (by kernel_rfl) (h.get 0 rfl) Tryd.underlying26 rfl info26)) ?_
        refine AllSure.cons (OpSure.take (v := arr a) (by kernel_rfl) (by kernel_rfl) (fun _ h => run_load_blk (by kernel_rfl) (h.get 3 rfl) Tryd.underlying26 rfl info26)) ?_
        refine AllSure.cons (sure_call (v := arr (negP a)) (by kernel_rfl) (by kernel_rfl) enter28 HA.keep #[arr a] (by kernel_rfl) (fun w' h' => Neg_any a ha w' (VV.out.below h'.old VV.out.big))) ?_
        refine AllSure.cons (sure_call (v := .bool true) (by kernel_rfl) (by kernel_rfl) enter30 HA.keep #[arr r, arr (negP a)] (by kernel_rfl) (fun w' h' => Same_yes r (negP a) hrP (negP_lt _) hR' w')) ?_
        refine AllSure.cons (OpSure.take (v := .bool false) (by kernel_rfl) (by kernel_rfl) (fun _ _ => (by kernel_rfl))) ?_
        refine AllSure.cons (OpSure.take (v := .bool false) (by kernel_rfl) (by kernel_rfl) (fun _ _ => (by kernel_rfl))) ?_
        refine AllSure.cons (OpSure.take (v := .bool false) (by kernel_rfl) (by kernel_rfl) (fun _ _ => (by kernel_rfl))) ?_
        exact AllSure.nil
      intro w33 h34
      exact then_I ⟨fun i => ([(32, .bool true), (33, .bool false), (34, .bool false), (35, arr r), (36, .bool false), (37, .bool false), (38, .bool false), (39, arr r), (40, arr a), (41, .bool false), (42, .bool true), (43, .bool true), (44, arr r), (45, arr a), (46, arr (negP a)), (47, .bool true), (48, .bool false), (49, .bool false)].find? (·.1 == i)).elim undef (·.2), by kernel_rfl, h34⟩
  rintro _ w35 ⟨u, rfl, h36⟩
  refine wp_cond_false (by kernel_rfl) ?_
  refine wp_skip ?_
  refine then_at (F := ⟨(.agg c0 :: .agg c1 :: pt q1 :: pt q4 :: .bool false :: pt q13 :: pt q14 :: pt q17 :: pt q26 :: .bool true :: un :: un :: un :: un :: un :: un :: un :: un :: .bool true :: .bool false :: .agg c0 :: arr a :: .agg c1 :: arr b :: arr 0 :: .tuple #[arr r, .bool true] :: arr a :: arr a :: arr (mulP a a) :: .tuple #[arr r, .bool true] :: arr r :: .bool true :: u 32 :: u 33 :: u 34 :: u 35 :: u 36 :: u 37 :: u 38 :: u 39 :: u 40 :: u 41 :: u 42 :: u 43 :: u 44 :: u 45 :: u 46 :: u 47 :: u 48 :: u 49 :: .bool false :: List.replicate 74 un).toArray, []⟩) (by kernel_rfl) ?_
  refine wp_seq ?_
  -- region 8
  refine wl_region ?_
  refine wl_load h36 3 rfl (by kernel_rfl) (by kernel_rfl) Tryd.underlying26 rfl info26 ?_
  refine wl_call (v := .tuple #[arr s, .bool true]) h36 (by kernel_rfl) enter31 #[arr a] (by kernel_rfl) (Root_yes rfl ha rt1 w35 (VV.out.below h36.old VV.out.big)) ?_
  intro w37 h38
  refine wl_val (.tuple #[arr s, .bool true]) (by kernel_rfl) (by kernel_rfl) ?_
  refine wl_val (arr s) (by kernel_rfl) (by kernel_rfl) ?_
  refine wl_val (.bool true) (by kernel_rfl) (by kernel_rfl) ?_
  refine wl_make h38 26 (by kernel_rfl) run_alloc26 ?_
  intro q39 w40 h41
  refine wl_fill (c' := el s) h41 0 rfl (by kernel_rfl) (by kernel_rfl) (by kernel_rfl) rfl info26 (one_el _) ?_
  intro w42 (h43 : HA w [(q39, 26, el s), (q26, 26, el r), (q17, 26, el 0), (q14, 26, el b), (q13, 26, el a), (q4, 40, c1), (q1, 40, c0)] w42)
  refine wl_val (.bool true) (by kernel_rfl) (by kernel_rfl) ?_
  refine wl_nil ?_
  refine then_at (F := ⟨(.agg c0 :: .agg c1 :: pt q1 :: pt q4 :: .bool false :: pt q13 :: pt q14 :: pt q17 :: pt q26 :: .bool true :: pt q39 :: .bool true :: un :: un :: un :: un :: un :: un :: .bool true :: .bool false :: .agg c0 :: arr a :: .agg c1 :: arr b :: arr 0 :: .tuple #[arr r, .bool true] :: arr a :: arr a :: arr (mulP a a) :: .tuple #[arr r, .bool true] :: arr r :: .bool true :: u 32 :: u 33 :: u 34 :: u 35 :: u 36 :: u 37 :: u 38 :: u 39 :: u 40 :: u 41 :: u 42 :: u 43 :: u 44 :: u 45 :: u 46 :: u 47 :: u 48 :: u 49 :: .bool false :: .tuple #[arr s, .bool true] :: arr a :: .tuple #[arr s, .bool true] :: arr s :: .bool true :: List.replicate 69 un).toArray, []⟩) (by kernel_rfl) ?_
  refine wp_seq ?_
  -- region 9
  refine wl_region ?_
  refine wl_load h43 4 rfl (by kernel_rfl) (by kernel_rfl) Tryd.underlying26 rfl info26 ?_
  refine wl_load h43 4 rfl (by kernel_rfl) (by kernel_rfl) Tryd.underlying26 rfl info26 ?_
  refine wl_call (v := arr (addP a a)) h43 (by kernel_rfl) enter22 #[arr a, arr a] (by kernel_rfl) (Add_any a a ha ha w42 (VV.out.below h43.old VV.out.big)) ?_
  intro w44 h45
  refine wl_call (v := .tuple #[arr 0, .bool false]) h45 (by kernel_rfl) enter31 #[arr (addP a a)] (by kernel_rfl) (Root_no rfl (addP_lt _ _) rt2 w44 (VV.out.below h45.old VV.out.big)) ?_
  intro w46 h47
  refine wl_val (.tuple #[arr 0, .bool false]) (by kernel_rfl) (by kernel_rfl) ?_
  refine wl_val (arr 0) (by kernel_rfl) (by kernel_rfl) ?_
  refine wl_val (.bool false) (by kernel_rfl) (by kernel_rfl) ?_
  refine wl_make h47 26 (by kernel_rfl) run_alloc26 ?_
  intro q48 w49 h50
  refine wl_fill (c' := el 0) h50 0 rfl (by kernel_rfl) (by kernel_rfl) (by kernel_rfl) rfl info26 (one_el _) ?_
  intro w51 (h52 : HA w [(q48, 26, el 0), (q39, 26, el s), (q26, 26, el r), (q17, 26, el 0), (q14, 26, el b), (q13, 26, el a), (q4, 40, c1), (q1, 40, c0)] w51)
  refine wl_val (.bool false) (by kernel_rfl) (by kernel_rfl) ?_
  refine wl_nil ?_
  refine then_at (F := ⟨(.agg c0 :: .agg c1 :: pt q1 :: pt q4 :: .bool false :: pt q13 :: pt q14 :: pt q17 :: pt q26 :: .bool true :: pt q39 :: .bool true :: pt q48 :: .bool false :: un :: un :: un :: un :: .bool true :: .bool false :: .agg c0 :: arr a :: .agg c1 :: arr b :: arr 0 :: .tuple #[arr r, .bool true] :: arr a :: arr a :: arr (mulP a a) :: .tuple #[arr r, .bool true] :: arr r :: .bool true :: u 32 :: u 33 :: u 34 :: u 35 :: u 36 :: u 37 :: u 38 :: u 39 :: u 40 :: u 41 :: u 42 :: u 43 :: u 44 :: u 45 :: u 46 :: u 47 :: u 48 :: u 49 :: .bool false :: .tuple #[arr s, .bool true] :: arr a :: .tuple #[arr s, .bool true] :: arr s :: .bool true :: .tuple #[arr 0, .bool false] :: arr a :: arr a :: arr (addP a a) :: .tuple #[arr 0, .bool false] :: arr 0 :: .bool false :: List.replicate 62 un).toArray, []⟩) (by kernel_rfl) ?_
  refine wp_seq ?_
  refine wp_seq ?_
  -- region 10
  refine wp_region_sure ⟨(.agg c0 :: .agg c1 :: pt q1 :: pt q4 :: .bool false :: pt q13 :: pt q14 :: pt q17 :: pt q26 :: .bool true :: pt q39 :: .bool true :: pt q48 :: .bool false :: un :: un :: un :: un :: .bool true :: .bool false :: .agg c0 :: arr a :: .agg c1 :: arr b :: arr 0 :: .tuple #[arr r, .bool true] :: arr a :: arr a :: arr (mulP a a) :: .tuple #[arr r, .bool true] :: arr r :: .bool true :: u 32 :: u 33 :: u 34 :: u 35 :: u 36 :: u 37 :: u 38 :: u 39 :: u 40 :: u 41 :: u 42 :: u 43 :: u 44 :: u 45 :: u 46 :: u 47 :: u 48 :: u 49 :: .bool false :: .tuple #[arr s, .bool true] :: arr a :: .tuple #[arr s, .bool true] :: arr s :: .bool true :: .tuple #[arr 0, .bool false] :: arr a :: arr a :: arr (addP a a) :: .tuple #[arr 0, .bool false] :: arr 0 :: .bool false :: .bool true :: .bool true :: arr s :: arr s :: arr (mulP s s) :: arr a :: .bool true :: .bool false :: .bool false :: .bool false :: .bool true :: .bool false :: .bool false :: un :: un :: un :: un :: .bool false :: .bool false :: List.replicate 43 un).toArray, []⟩ (HA w [(q48, 26, el 0), (q39, 26, el s), (q26, 26, el r), (q17, 26, el 0), (q14, 26, el b), (q13, 26, el a), (q4, 40, c1), (q1, 40, c0)]) [.bool true, .bool true, arr s, arr s, arr (mulP s s), arr a, .bool true, .bool false, .bool false, .bool false, .bool true, .bool false, .bool false, undef, undef, undef, undef, .bool false, .bool false] (by kernel_rfl) (by kernel_rfl) (by kernel_rfl) (by kernel_rfl) (fun _ _ _ h => h) h52.drew ?_ ?_
  · refine AllSure.cons (OpSure.take (v := .bool true) (by kernel_rfl) (by kernel_rfl) (fun _ _ => (by kernel_rfl))) ?_
    refine AllSure.cons (OpSure.take (v := .bool true) (by kernel_rfl) (by kernel_rfl) (fun _ _ => (by kernel_rfl))) ?_
    refine AllSure.cons (OpSure.take (v := arr s) (by kernel_rfl) (by kernel_rfl) (fun _ h => run_load_blk (by kernel_rfl) (h.get 1 rfl) Tryd.underlying26 rfl info26)) ?_
    refine AllSure.cons (OpSure.take (v := arr s) (by kernel_rfl) (by kernel_rfl) (fun _ h => run_load_blk (by kernel_rfl) (h.get 1 rfl) Tryd.underlying26 rfl info26)) ?_
    refine AllSure.cons (sure_call (v := arr (mulP s s)) (by kernel_rfl) (by kernel_rfl) enter26 HA.keep #[arr s, arr s] (by kernel_rfl) (fun w' h' => Mul_any s s hsP hsP w' (VV.out.below h'.old VV.out.big))) ?_
    refine AllSure.cons (OpSure.take (v := arr a) (by kernel_rfl) (by kernel_rfl) (fun _ h => run_load_blk (by kernel_rfl) (h.get 5 rfl) Tryd.underlying26 rfl info26)) ?_
    refine AllSure.cons (sure_call (v := .bool true) (by kernel_rfl) (by kernel_rfl) enter30 HA.keep #[arr (mulP s s), arr a] (by kernel_rfl) (fun w' h' => Same_yes (mulP s s) a (mulP_lt _ _) ha hss w')) ?_
    refine AllSure.cons (OpSure.take (v := .bool false) (by kernel_rfl) (by kernel_rfl) (fun _ _ => (by kernel_rfl))) ?_
    refine AllSure.cons (OpSure.take (v := .bool false) (by kernel_rfl) (by kernel_rfl) (fun _ _ => (by kernel_rfl))) ?_
    refine AllSure.cons (OpSure.take (v := .bool false) (by kernel_rfl) (by kernel_rfl) (fun _ _ => (by kernel_rfl))) ?_
    refine AllSure.cons (OpSure.take (v := .bool true) (by kernel_rfl) (by kernel_rfl) (fun _ _ => (by kernel_rfl))) ?_
    refine AllSure.cons (OpSure.take (v := .bool false) (by kernel_rfl) (by kernel_rfl) (fun _ _ => (by kernel_rfl))) ?_
    refine AllSure.cons (OpSure.take (v := .bool false) (by kernel_rfl) (by kernel_rfl) (fun _ _ => (by kernel_rfl))) ?_
    refine AllSure.cons (OpSure.skip (by kernel_rfl) (by kernel_rfl)) ?_
    refine AllSure.cons (OpSure.skip (by kernel_rfl) (by kernel_rfl)) ?_
    refine AllSure.cons (OpSure.skip (by kernel_rfl) (by kernel_rfl)) ?_
    refine AllSure.cons (OpSure.skip (by kernel_rfl) (by kernel_rfl)) ?_
    refine AllSure.cons (OpSure.take (v := .bool false) (by kernel_rfl) (by kernel_rfl) (fun _ _ => (by kernel_rfl))) ?_
    refine AllSure.cons (OpSure.take (v := .bool false) (by kernel_rfl) (by kernel_rfl) (fun _ _ => (by kernel_rfl))) ?_
    exact AllSure.nil
  intro w53 h54
  refine then_at (F := ⟨(.agg c0 :: .agg c1 :: pt q1 :: pt q4 :: .bool false :: pt q13 :: pt q14 :: pt q17 :: pt q26 :: .bool true :: pt q39 :: .bool true :: pt q48 :: .bool false :: un :: un :: un :: un :: .bool true :: .bool false :: .agg c0 :: arr a :: .agg c1 :: arr b :: arr 0 :: .tuple #[arr r, .bool true] :: arr a :: arr a :: arr (mulP a a) :: .tuple #[arr r, .bool true] :: arr r :: .bool true :: u 32 :: u 33 :: u 34 :: u 35 :: u 36 :: u 37 :: u 38 :: u 39 :: u 40 :: u 41 :: u 42 :: u 43 :: u 44 :: u 45 :: u 46 :: u 47 :: u 48 :: u 49 :: .bool false :: .tuple #[arr s, .bool true] :: arr a :: .tuple #[arr s, .bool true] :: arr s :: .bool true :: .tuple #[arr 0, .bool false] :: arr a :: arr a :: arr (addP a a) :: .tuple #[arr 0, .bool false] :: arr 0 :: .bool false :: .bool true :: .bool true :: arr s :: arr s :: arr (mulP s s) :: arr a :: .bool true :: .bool false :: .bool false :: .bool false :: .bool true :: .bool false :: .bool false :: un :: un :: un :: un :: .bool false :: .bool false :: List.replicate 43 un).toArray, []⟩) (by kernel_rfl) ?_
  refine wp_cond_false (by kernel_rfl) ?_
  refine wp_skip ?_
  refine then_at (F := ⟨(.agg c0 :: .agg c1 :: pt q1 :: pt q4 :: .bool false :: pt q13 :: pt q14 :: pt q17 :: pt q26 :: .bool true :: pt q39 :: .bool true :: pt q48 :: .bool false :: un :: un :: un :: un :: .bool true :: .bool false :: .agg c0 :: arr a :: .agg c1 :: arr b :: arr 0 :: .tuple #[arr r, .bool true] :: arr a :: arr a :: arr (mulP a a) :: .tuple #[arr r, .bool true] :: arr r :: .bool true :: u 32 :: u 33 :: u 34 :: u 35 :: u 36 :: u 37 :: u 38 :: u 39 :: u 40 :: u 41 :: u 42 :: u 43 :: u 44 :: u 45 :: u 46 :: u 47 :: u 48 :: u 49 :: .bool false :: .tuple #[arr s, .bool true] :: arr a :: .tuple #[arr s, .bool true] :: arr s :: .bool true :: .tuple #[arr 0, .bool false] :: arr a :: arr a :: arr (addP a a) :: .tuple #[arr 0, .bool false] :: arr 0 :: .bool false :: .bool true :: .bool true :: arr s :: arr s :: arr (mulP s s) :: arr a :: .bool true :: .bool false :: .bool false :: .bool false :: .bool true :: .bool false :: .bool false :: un :: un :: un :: un :: .bool false :: .bool false :: List.replicate 43 un).toArray, []⟩) (by kernel_rfl) ?_
  refine wp_seq ?_
  refine wp_seq ?_
  -- region 12
  refine wl_region ?_
  refine wl_load h54 5 rfl (by kernel_rfl) (by kernel_rfl) Tryd.underlying26 rfl info26 ?_
  refine wl_load h54 3 rfl (by kernel_rfl) (by kernel_rfl) Tryd.underlying26 rfl info26 ?_
  refine wl_call (v := .bool false) h54 (by kernel_rfl) enter30 #[arr a, arr 0] (by kernel_rfl) (Same_no a 0 ha (by decide) hA w53) ?_
  intro w55 h56
  refine wl_val (.bool false) (by kernel_rfl) (by kernel_rfl) ?_
  refine wl_load h56 4 rfl (by kernel_rfl) (by kernel_rfl) Tryd.underlying26 rfl info26 ?_
  refine wl_load h56 3 rfl (by kernel_rfl) (by kernel_rfl) Tryd.underlying26 rfl info26 ?_
  refine wl_call (v := .bool false) h56 (by kernel_rfl) enter30 #[arr b, arr 0] (by kernel_rfl) (Same_no b 0 hb (by decide) hB w55) ?_
  intro w57 h58
  refine wl_val (.bool false) (by kernel_rfl) (by kernel_rfl) ?_
  refine wl_nil ?_
  refine then_at (F := ⟨(.agg c0 :: .agg c1 :: pt q1 :: pt q4 :: .bool false :: pt q13 :: pt q14 :: pt q17 :: pt q26 :: .bool true :: pt q39 :: .bool true :: pt q48 :: .bool false :: un :: un :: un :: un :: .bool true :: .bool false :: .agg c0 :: arr a :: .agg c1 :: arr b :: arr 0 :: .tuple #[arr r, .bool true] :: arr a :: arr a :: arr (mulP a a) :: .tuple #[arr r, .bool true] :: arr r :: .bool true :: u 32 :: u 33 :: u 34 :: u 35 :: u 36 :: u 37 :: u 38 :: u 39 :: u 40 :: u 41 :: u 42 :: u 43 :: u 44 :: u 45 :: u 46 :: u 47 :: u 48 :: u 49 :: .bool false :: .tuple #[arr s, .bool true] :: arr a :: .tuple #[arr s, .bool true] :: arr s :: .bool true :: .tuple #[arr 0, .bool false] :: arr a :: arr a :: arr (addP a a) :: .tuple #[arr 0, .bool false] :: arr 0 :: .bool false :: .bool true :: .bool true :: arr s :: arr s :: arr (mulP s s) :: arr a :: .bool true :: .bool false :: .bool false :: .bool false :: .bool true :: .bool false :: .bool false :: un :: un :: un :: un :: .bool false :: .bool false :: arr a :: arr 0 :: .bool false :: .bool false :: arr b :: arr 0 :: .bool false :: .bool false :: List.replicate 35 un).toArray, []⟩) (by kernel_rfl) ?_
  refine wp_cond_false (by kernel_rfl) ?_
  refine wp_skip ?_
  refine then_at (F := ⟨(.agg c0 :: .agg c1 :: pt q1 :: pt q4 :: .bool false :: pt q13 :: pt q14 :: pt q17 :: pt q26 :: .bool true :: pt q39 :: .bool true :: pt q48 :: .bool false :: un :: un :: un :: un :: .bool true :: .bool false :: .agg c0 :: arr a :: .agg c1 :: arr b :: arr 0 :: .tuple #[arr r, .bool true] :: arr a :: arr a :: arr (mulP a a) :: .tuple #[arr r, .bool true] :: arr r :: .bool true :: u 32 :: u 33 :: u 34 :: u 35 :: u 36 :: u 37 :: u 38 :: u 39 :: u 40 :: u 41 :: u 42 :: u 43 :: u 44 :: u 45 :: u 46 :: u 47 :: u 48 :: u 49 :: .bool false :: .tuple #[arr s, .bool true] :: arr a :: .tuple #[arr s, .bool true] :: arr s :: .bool true :: .tuple #[arr 0, .bool false] :: arr a :: arr a :: arr (addP a a) :: .tuple #[arr 0, .bool false] :: arr 0 :: .bool false :: .bool true :: .bool true :: arr s :: arr s :: arr (mulP s s) :: arr a :: .bool true :: .bool false :: .bool false :: .bool false :: .bool true :: .bool false :: .bool false :: un :: un :: un :: un :: .bool false :: .bool false :: arr a :: arr 0 :: .bool false :: .bool false :: arr b :: arr 0 :: .bool false :: .bool false :: List.replicate 35 un).toArray, []⟩) (by kernel_rfl) ?_
  refine wp_seq ?_
  -- region 14
  refine wl_region ?_
  refine wl_load h58 4 rfl (by kernel_rfl) (by kernel_rfl) Tryd.underlying26 rfl info26 ?_
  refine wl_call (v := .tuple #[arr o, .bool true]) h58 (by kernel_rfl) enter31 #[arr b] (by kernel_rfl) (Root_yes rfl hb rt3 w57 (VV.out.below h58.old VV.out.big)) ?_
  intro w59 h60
  refine wl_val (.tuple #[arr o, .bool true]) (by kernel_rfl) (by kernel_rfl) ?_
  refine wl_val (arr o) (by kernel_rfl) (by kernel_rfl) ?_
  refine wl_val (.bool true) (by kernel_rfl) (by kernel_rfl) ?_
  refine wl_make h60 26 (by kernel_rfl) run_alloc26 ?_
  intro q61 w62 h63
  refine wl_fill (c' := el o) h63 0 rfl (by kernel_rfl) (by kernel_rfl) (by kernel_rfl) rfl info26 (one_el _) ?_
  intro w64 (h65 : HA w [(q61, 26, el o), (q48, 26, el 0), (q39, 26, el s), (q26, 26, el r), (q17, 26, el 0), (q14, 26, el b), (q13, 26, el a), (q4, 40, c1), (q1, 40, c0)] w64)
  refine wl_val (.bool true) (by kernel_rfl) (by kernel_rfl) ?_
  refine wl_nil ?_
  refine then_at (F := ⟨(.agg c0 :: .agg c1 :: pt q1 :: pt q4 :: .bool false :: pt q13 :: pt q14 :: pt q17 :: pt q26 :: .bool true :: pt q39 :: .bool true :: pt q48 :: .bool false :: pt q61 :: .bool true :: un :: un :: .bool true :: .bool false :: .agg c0 :: arr a :: .agg c1 :: arr b :: arr 0 :: .tuple #[arr r, .bool true] :: arr a :: arr a :: arr (mulP a a) :: .tuple #[arr r, .bool true] :: arr r :: .bool true :: u 32 :: u 33 :: u 34 :: u 35 :: u 36 :: u 37 :: u 38 :: u 39 :: u 40 :: u 41 :: u 42 :: u 43 :: u 44 :: u 45 :: u 46 :: u 47 :: u 48 :: u 49 :: .bool false :: .tuple #[arr s, .bool true] :: arr a :: .tuple #[arr s, .bool true] :: arr s :: .bool true :: .tuple #[arr 0, .bool false] :: arr a :: arr a :: arr (addP a a) :: .tuple #[arr 0, .bool false] :: arr 0 :: .bool false :: .bool true :: .bool true :: arr s :: arr s :: arr (mulP s s) :: arr a :: .bool true :: .bool false :: .bool false :: .bool false :: .bool true :: .bool false :: .bool false :: un :: un :: un :: un :: .bool false :: .bool false :: arr a :: arr 0 :: .bool false :: .bool false :: arr b :: arr 0 :: .bool false :: .bool false :: un :: un :: un :: un :: un :: un :: un :: un :: un :: un :: un :: un :: un :: .tuple #[arr o, .bool true] :: arr b :: .tuple #[arr o, .bool true] :: arr o :: .bool true :: List.replicate 17 un).toArray, []⟩) (by kernel_rfl) ?_
  refine wp_seq ?_
  -- region 15
  refine wl_region ?_
  refine wl_load h65 6 rfl (by kernel_rfl) (by kernel_rfl) Tryd.underlying26 rfl info26 ?_
  refine wl_load h65 5 rfl (by kernel_rfl) (by kernel_rfl) Tryd.underlying26 rfl info26 ?_
  refine wl_call (v := arr (mulP a b)) h65 (by kernel_rfl) enter26 #[arr a, arr b] (by kernel_rfl) (Mul_any a b ha hb w64 (VV.out.below h65.old VV.out.big)) ?_
  intro w66 h67
  refine wl_call (v := .tuple #[arr p, .bool true]) h67 (by kernel_rfl) enter31 #[arr (mulP a b)] (by kernel_rfl) (Root_yes rfl (mulP_lt _ _) rt4 w66 (VV.out.below h67.old VV.out.big)) ?_
  intro w68 h69
  refine wl_val (.tuple #[arr p, .bool true]) (by kernel_rfl) (by kernel_rfl) ?_
  refine wl_val (arr p) (by kernel_rfl) (by kernel_rfl) ?_
  refine wl_val (.bool true) (by kernel_rfl) (by kernel_rfl) ?_
  refine wl_make h69 26 (by kernel_rfl) run_alloc26 ?_
  intro q70 w71 h72
  refine wl_fill (c' := el p) h72 0 rfl (by kernel_rfl) (by kernel_rfl) (by kernel_rfl) rfl info26 (one_el _) ?_
  intro w73 (h74 : HA w [(q70, 26, el p), (q61, 26, el o), (q48, 26, el 0), (q39, 26, el s), (q26, 26, el r), (q17, 26, el 0), (q14, 26, el b), (q13, 26, el a), (q4, 40, c1), (q1, 40, c0)] w73)
  refine wl_val (.bool true) (by kernel_rfl) (by kernel_rfl) ?_
  refine wl_nil ?_
  refine then_at (F := ⟨(.agg c0 :: .agg c1 :: pt q1 :: pt q4 :: .bool false :: pt q13 :: pt q14 :: pt q17 :: pt q26 :: .bool true :: pt q39 :: .bool true :: pt q48 :: .bool false :: pt q61 :: .bool true :: pt q70 :: .bool true :: .bool true :: .bool false :: .agg c0 :: arr a :: .agg c1 :: arr b :: arr 0 :: .tuple #[arr r, .bool true] :: arr a :: arr a :: arr (mulP a a) :: .tuple #[arr r, .bool true] :: arr r :: .bool true :: u 32 :: u 33 :: u 34 :: u 35 :: u 36 :: u 37 :: u 38 :: u 39 :: u 40 :: u 41 :: u 42 :: u 43 :: u 44 :: u 45 :: u 46 :: u 47 :: u 48 :: u 49 :: .bool false :: .tuple #[arr s, .bool true] :: arr a :: .tuple #[arr s, .bool true] :: arr s :: .bool true :: .tuple #[arr 0, .bool false] :: arr a :: arr a :: arr (addP a a) :: .tuple #[arr 0, .bool false] :: arr 0 :: .bool false :: .bool true :: .bool true :: arr s :: arr s :: arr (mulP s s) :: arr a :: .bool true :: .bool false :: .bool false :: .bool false :: .bool true :: .bool false :: .bool false :: un :: un :: un :: un :: .bool false :: .bool false :: arr a :: arr 0 :: .bool false :: .bool false :: arr b :: arr 0 :: .bool false :: .bool false :: un :: un :: un :: un :: un :: un :: un :: un :: un :: un :: un :: un :: un :: .tuple #[arr o, .bool true] :: arr b :: .tuple #[arr o, .bool true] :: arr o :: .bool true :: .tuple #[arr p, .bool true] :: arr a :: arr b :: arr (mulP a b) :: .tuple #[arr p, .bool true] :: arr p :: .bool true :: List.replicate 10 un).toArray, []⟩) (by kernel_rfl) ?_
  refine wp_seq ?_
  -- region 16
  refine wl_region ?_
  refine wl_val (.bool true) (by kernel_rfl) (by kernel_rfl) ?_
  refine wl_val (.bool false) (by kernel_rfl) (by kernel_rfl) ?_
  refine wl_val (.bool true) (by kernel_rfl) (run_neb true false (by kernel_rfl) (by kernel_rfl)) ?_
  refine wl_val (.bool true) (by kernel_rfl) (by kernel_rfl) ?_
  refine wl_val (.bool true) (by kernel_rfl) (by kernel_rfl) ?_
  refine wl_val (.bool true) (by kernel_rfl) (by kernel_rfl) ?_
  refine wl_val (.bool true) (by kernel_rfl) (by kernel_rfl) ?_
  refine wl_val (.bool true) (by kernel_rfl) (run_eqb true true (by kernel_rfl) (by kernel_rfl)) ?_
  refine wl_val (.bool true) (by kernel_rfl) (run_eqb true true (by kernel_rfl) (by kernel_rfl)) ?_
  refine wl_val (.bool true) (by kernel_rfl) (by kernel_rfl) ?_
  refine wl_val (.bool true) (by kernel_rfl) (by kernel_rfl) ?_
  refine wl_nil ?_
  refine then_at (F := ⟨(.agg c0 :: .agg c1 :: pt q1 :: pt q4 :: .bool true :: pt q13 :: pt q14 :: pt q17 :: pt q26 :: .bool true :: pt q39 :: .bool true :: pt q48 :: .bool false :: pt q61 :: .bool true :: pt q70 :: .bool true :: .bool true :: .bool false :: .agg c0 :: arr a :: .agg c1 :: arr b :: arr 0 :: .tuple #[arr r, .bool true] :: arr a :: arr a :: arr (mulP a a) :: .tuple #[arr r, .bool true] :: arr r :: .bool true :: u 32 :: u 33 :: u 34 :: u 35 :: u 36 :: u 37 :: u 38 :: u 39 :: u 40 :: u 41 :: u 42 :: u 43 :: u 44 :: u 45 :: u 46 :: u 47 :: u 48 :: u 49 :: .bool false :: .tuple #[arr s, .bool true] :: arr a :: .tuple #[arr s, .bool true] :: arr s :: .bool true :: .tuple #[arr 0, .bool false] :: arr a :: arr a :: arr (addP a a) :: .tuple #[arr 0, .bool false] :: arr 0 :: .bool false :: .bool true :: .bool true :: arr s :: arr s :: arr (mulP s s) :: arr a :: .bool true :: .bool false :: .bool false :: .bool false :: .bool true :: .bool false :: .bool false :: un :: un :: un :: un :: .bool false :: .bool false :: arr a :: arr 0 :: .bool false :: .bool false :: arr b :: arr 0 :: .bool false :: .bool false :: un :: un :: un :: un :: un :: un :: un :: un :: un :: un :: un :: un :: un :: .tuple #[arr o, .bool true] :: arr b :: .tuple #[arr o, .bool true] :: arr o :: .bool true :: .tuple #[arr p, .bool true] :: arr a :: arr b :: arr (mulP a b) :: .tuple #[arr p, .bool true] :: arr p :: .bool true :: .bool true :: .bool false :: .bool true :: .bool true :: .bool true :: .bool true :: .bool true :: .bool true :: .bool true :: .bool true :: List.replicate 0 un).toArray, []⟩) (by kernel_rfl) ?_
  refine wp_ret ?_
  repeat first | refine then_ret ?_ | refine block_ret ?_
  exact bodyPost_ret (v := .bool true) (by kernel_rfl) rfl ⟨rfl, h74.old⟩
set_option linter.unusedVariables false in
set_option maxRecDepth 100000 in
set_option maxHeartbeats 4000000 in
theorem sq_c2 (c0 c1 : Array Value) (a b r : Nat) (hz0 : c0.size = 32) (hz1 : c1.size = 32) (ha : a < P) (hb : b < P) (hr : rootP (mulP a a) = some r) (hr2 : r % 2 = 0) (hrP : r < P) (hR : r = a ∨ r ≠ a ∧ r = negP a) (hA : a ≠ 0) (hB : b ≠ 0) (s : Nat) (rt1 : rootP a = some s) (hss : mulP s s = a) (hsP : s < P) (rt2 : rootP (addP a a) = none) (rt3 : rootP b = none) (rt4 : rootP (mulP a b) = none)
    (KA : ∀ w, Vars w → Calls Tryd.prog 20 #[.agg c0] w fun e w' => e = .returned (arr a) ∧ Below w.heap.size w w')
    (KB : ∀ w, Vars w → Calls Tryd.prog 20 #[.agg c1] w fun e w' => e = .returned (arr b) ∧ Below w.heap.size w w') (w : World) (V : Vars w) :
    Calls Tryd.prog 8 #[.agg c0, .agg c1] w fun e w' => e = .returned (.bool true) ∧ Below w.heap.size w w' := by
  have VV := hide V
  have H0 := HA.start w
  clear V
  go_enter Tryd.func8, Tryd.ntmps8
  refine wp_seq ?_
  -- region 0
  refine wl_region ?_
  refine wl_make H0 40 (by kernel_rfl) (run_box40 (c := c0) (by kernel_rfl)) ?_
  intro q1 w2 h3
  refine wl_make h3 40 (by kernel_rfl) (run_box40 (c := c1) (by kernel_rfl)) ?_
  intro q4 w5 h6
  refine wl_val (.bool false) (by kernel_rfl) (by kernel_rfl) ?_
  refine wl_nil ?_
  refine then_at (F := ⟨(.agg c0 :: .agg c1 :: pt q1 :: pt q4 :: .bool false :: List.replicate 120 un).toArray, []⟩) (by kernel_rfl) ?_
  refine wp_seq ?_
  refine wp_seq ?_
  -- region 1
  refine wl_region ?_
  refine wl_call (v := .bool true) h6 (by kernel_rfl) enter19 #[] (by kernel_rfl) (works_any w5 (VV.out.below h6.old VV.out.big)) ?_
  intro w7 h8
  refine wl_val (.bool false) (by kernel_rfl) (by kernel_rfl) ?_
  refine wl_nil ?_
  refine then_at (F := ⟨(.agg c0 :: .agg c1 :: pt q1 :: pt q4 :: .bool false :: un :: un :: un :: un :: un :: un :: un :: un :: un :: un :: un :: un :: un :: .bool true :: .bool false :: List.replicate 105 un).toArray, []⟩) (by kernel_rfl) ?_
  refine wp_cond_false (by kernel_rfl) ?_
  refine wp_skip ?_
  refine then_at (F := ⟨(.agg c0 :: .agg c1 :: pt q1 :: pt q4 :: .bool false :: un :: un :: un :: un :: un :: un :: un :: un :: un :: un :: un :: un :: un :: .bool true :: .bool false :: List.replicate 105 un).toArray, []⟩) (by kernel_rfl) ?_
  refine wp_seq ?_
  -- region 3
  obtain ⟨B9, eB9⟩ : ∃ B, B = w7.heap.size := ⟨_, rfl⟩
  refine wp_region_ghost (fun g : Nat → Nat => (⟨(.agg c0 :: .agg c1 :: pt q1 :: pt q4 :: .bool false :: pt (g 4) :: pt (g 5) :: un :: un :: un :: un :: un :: un :: un :: un :: un :: un :: un :: .bool true :: .bool false :: .agg c0 :: arr a :: .agg c1 :: arr b :: List.replicate 101 un).toArray, []⟩ : Act)) (GS w [(q4, 40, c1), (q1, 40, c0)] B9 2 4 6 26 (el 0) (fun j => el ([a, b].getD j a))) [.agg c0, arr a, .agg c1, arr b, .pointer (some ⟨0, 0, none⟩), .pointer (some ⟨0, 0, none⟩), undef, undef] (by kernel_rfl) (by kernel_rfl) (by kernel_rfl) (by kernel_rfl) (fun _ _ _ _ h => h) (fun d hd => GS.start h8.drew eB9 (by decide) (fun _ _ => rfl) (fun j hj => hd j (Nat.lt_of_lt_of_le hj (by decide)))) ?_ ?_
  · refine AllGhost.cons (ghost_load 1 rfl (by decide) (fun _ => by kernel_rfl) (fun _ => by kernel_rfl) (fun _ => by kernel_rfl) Tryd.underlying40 rfl (by first | (show _ = some c0.size; rw [hz0]; exact info40) | (show _ = some c1.size; rw [hz1]; exact info40))) ?_
    refine AllGhost.cons (ghost_call (v := arr a) (by decide) (fun _ => by kernel_rfl) (fun _ => by kernel_rfl) enter20 #[.agg c0] (fun _ => by kernel_rfl) (fun w' h' => KA w' (VV.out.below h'.old VV.out.big))) ?_
    refine AllGhost.cons (ghost_load 0 rfl (by decide) (fun _ => by kernel_rfl) (fun _ => by kernel_rfl) (fun _ => by kernel_rfl) Tryd.underlying40 rfl (by first | (show _ = some c0.size; rw [hz0]; exact info40) | (show _ = some c1.size; rw [hz1]; exact info40))) ?_
    refine AllGhost.cons (ghost_call (v := arr b) (by decide) (fun _ => by kernel_rfl) (fun _ => by kernel_rfl) enter20 #[.agg c1] (fun _ => by kernel_rfl) (fun w' h' => KB w' (VV.out.below h'.old VV.out.big))) ?_
    refine AllGhost.cons (ghost_make 0 (by decide) rfl (fun _ => by kernel_rfl) (fun _ _ => by kernel_rfl) (fun _ _ => run_alloc26)) ?_
    refine AllGhost.cons (ghost_make 1 (by decide) rfl (fun _ => by kernel_rfl) (fun _ _ => by kernel_rfl) (fun _ _ => run_alloc26)) ?_
    refine AllGhost.cons (ghost_fill 0 (by decide) rfl (fun _ => by kernel_rfl) (fun _ => by kernel_rfl) (fun _ => by kernel_rfl) (fun _ => by kernel_rfl) info26 (one_el _) (by kernel_rfl)) ?_
    refine AllGhost.cons (ghost_fill 1 (by decide) rfl (fun _ => by kernel_rfl) (fun _ => by kernel_rfl) (fun _ => by kernel_rfl) (fun _ => by kernel_rfl) info26 (one_el _) (by kernel_rfl)) ?_
    exact AllGhost.nil
  intro g w10 g11
  have h12 : HA w [(g 5, 26, el b), (g 4, 26, el a), (q4, 40, c1), (q1, 40, c0)] w10 := g11.two
  clear g11 eB9
  generalize g 4 = q13 at h12 ⊢
  generalize g 5 = q14 at h12 ⊢
  clear g
  refine then_at (F := ⟨(.agg c0 :: .agg c1 :: pt q1 :: pt q4 :: .bool false :: pt q13 :: pt q14 :: un :: un :: un :: un :: un :: un :: un :: un :: un :: un :: un :: .bool true :: .bool false :: .agg c0 :: arr a :: .agg c1 :: arr b :: List.replicate 101 un).toArray, []⟩) (by kernel_rfl) ?_
  refine wp_seq ?_
  -- region 4
  refine wl_region ?_
  refine wl_call (v := arr 0) h12 (by kernel_rfl) enter17 #[iN .u32 0] (by kernel_rfl) (Small_any 0 (by decide) w10) ?_
  intro w15 h16
  refine wl_make h16 26 (by kernel_rfl) run_alloc26 ?_
  intro q17 w18 h19
  refine wl_fill (c' := el 0) h19 0 rfl (by kernel_rfl) (by kernel_rfl) (by kernel_rfl) rfl info26 (one_el _) ?_
  intro w20 (h21 : HA w [(q17, 26, el 0), (q14, 26, el b), (q13, 26, el a), (q4, 40, c1), (q1, 40, c0)] w20)
  refine wl_nil ?_
  refine then_at (F := ⟨(.agg c0 :: .agg c1 :: pt q1 :: pt q4 :: .bool false :: pt q13 :: pt q14 :: pt q17 :: un :: un :: un :: un :: un :: un :: un :: un :: un :: un :: .bool true :: .bool false :: .agg c0 :: arr a :: .agg c1 :: arr b :: arr 0 :: List.replicate 100 un).toArray, []⟩) (by kernel_rfl) ?_
  refine wp_seq ?_
  -- region 5
  refine wl_region ?_
  refine wl_load h21 2 rfl (by kernel_rfl) (by kernel_rfl) Tryd.underlying26 rfl info26 ?_
  refine wl_load h21 2 rfl (by kernel_rfl) (by kernel_rfl) Tryd.underlying26 rfl info26 ?_
  refine wl_call (v := arr (mulP a a)) h21 (by kernel_rfl) enter26 #[arr a, arr a] (by kernel_rfl) (Mul_any a a ha ha w20 (VV.out.below h21.old VV.out.big)) ?_
  intro w22 h23
  refine wl_call (v := .tuple #[arr r, .bool true]) h23 (by kernel_rfl) enter31 #[arr (mulP a a)] (by kernel_rfl) (Root_yes rfl (mulP_lt _ _) hr w22 (VV.out.below h23.old VV.out.big)) ?_
  intro w24 h25
  refine wl_val (.tuple #[arr r, .bool true]) (by kernel_rfl) (by kernel_rfl) ?_
  refine wl_val (arr r) (by kernel_rfl) (by kernel_rfl) ?_
  refine wl_val (.bool true) (by kernel_rfl) (by kernel_rfl) ?_
  refine wl_make h25 26 (by kernel_rfl) run_alloc26 ?_
  intro q26 w27 h28
  refine wl_fill (c' := el r) h28 0 rfl (by kernel_rfl) (by kernel_rfl) (by kernel_rfl) rfl info26 (one_el _) ?_
  intro w29 (h30 : HA w [(q26, 26, el r), (q17, 26, el 0), (q14, 26, el b), (q13, 26, el a), (q4, 40, c1), (q1, 40, c0)] w29)
  refine wl_val (.bool true) (by kernel_rfl) (by kernel_rfl) ?_
  refine wl_nil ?_
  refine then_at (F := ⟨(.agg c0 :: .agg c1 :: pt q1 :: pt q4 :: .bool false :: pt q13 :: pt q14 :: pt q17 :: pt q26 :: .bool true :: un :: un :: un :: un :: un :: un :: un :: un :: .bool true :: .bool false :: .agg c0 :: arr a :: .agg c1 :: arr b :: arr 0 :: .tuple #[arr r, .bool true] :: arr a :: arr a :: arr (mulP a a) :: .tuple #[arr r, .bool true] :: arr r :: .bool true :: List.replicate 93 un).toArray, []⟩) (by kernel_rfl) ?_
  refine wp_seq ?_
  refine wp_seq ?_
  -- region 6, two ways
  refine wp_meet (fun A w' => ∃ u : Nat → Value, A = ⟨(.agg c0 :: .agg c1 :: pt q1 :: pt q4 :: .bool false :: pt q13 :: pt q14 :: pt q17 :: pt q26 :: .bool true :: un :: un :: un :: un :: un :: un :: un :: un :: .bool true :: .bool false :: .agg c0 :: arr a :: .agg c1 :: arr b :: arr 0 :: .tuple #[arr r, .bool true] :: arr a :: arr a :: arr (mulP a a) :: .tuple #[arr r, .bool true] :: arr r :: .bool true :: u 32 :: u 33 :: u 34 :: u 35 :: u 36 :: u 37 :: u 38 :: u 39 :: u 40 :: u 41 :: u 42 :: u 43 :: u 44 :: u 45 :: u 46 :: u 47 :: u 48 :: u 49 :: .bool false :: List.replicate 74 un).toArray, []⟩ ∧ HA w [(q26, 26, el r), (q17, 26, el 0), (q14, 26, el b), (q13, 26, el a), (q4, 40, c1), (q1, 40, c0)] w') ?_ ?_
  · rcases hR with hR | ⟨hR, hR'⟩
    · -- region 6
      refine wp_region_sure ⟨(.agg c0 :: .agg c1 :: pt q1 :: pt q4 :: .bool false :: pt q13 :: pt q14 :: pt q17 :: pt q26 :: .bool true :: un :: un :: un :: un :: un :: un :: un :: un :: .bool true :: .bool false :: .agg c0 :: arr a :: .agg c1 :: arr b :: arr 0 :: .tuple #[arr r, .bool true] :: arr a :: arr a :: arr (mulP a a) :: .tuple #[arr r, .bool true] :: arr r :: .bool true :: .bool true :: .bool false :: .bool false :: arr r :: .bool false :: .bool false :: .bool false :: arr r :: arr a :: .bool true :: .bool false :: .bool false :: un :: un :: un :: un :: un :: .bool false :: .bool false :: List.replicate 74 un).toArray, []⟩ (HA w [(q26, 26, el r), (q17, 26, el 0), (q14, 26, el b), (q13, 26, el a), (q4, 40, c1), (q1, 40, c0)]) [.bool true, .bool false, .bool false, arr r, .bool false, .bool false, .bool false, arr r, arr a, .bool true, .bool false, .bool false, undef, undef, undef, undef, undef, .bool false, .bool false] (by kernel_rfl) (by kernel_rfl) (by kernel_rfl) (by kernel_rfl) (fun _ _ _ h => h) h30.drew ?_ ?_
      · refine AllSure.cons (OpSure.take (v := .bool true) (by kernel_rfl) (by kernel_rfl) (fun _ _ => (by kernel_rfl))) ?_
        refine AllSure.cons (OpSure.take (v := .bool false) (by kernel_rfl) (by kernel_rfl) (fun _ _ => (by kernel_rfl))) ?_
        refine AllSure.cons (OpSure.take (v := .bool false) (by kernel_rfl) (by kernel_rfl) (fun _ _ => (by kernel_rfl))) ?_
        refine AllSure.cons (OpSure.take (v := arr r) (by kernel_rfl) (by kernel_rfl) (fun _ h => run_load_blk (by kernel_rfl) (h.get 0 rfl) Tryd.underlying26 rfl info26)) ?_
        refine AllSure.cons (sure_call (v := .bool false) (by kernel_rfl) (by kernel_rfl) enter15 HA.keep #[arr r] (by kernel_rfl) (fun w' h' => Odd_no r hr2 w')) ?_
        refine AllSure.cons (OpSure.take (v := .bool false) (by kernel_rfl) (by kernel_rfl) (fun _ _ => (by kernel_rfl))) ?_
        refine AllSure.cons (OpSure.take (v := .bool false) (by kernel_rfl) (by kernel_rfl) (fun _ _ => (by kernel_rfl))) ?_
        refine AllSure.cons (OpSure.take (v := arr r) (by kernel_rfl) (by kernel_rfl) (fun _ h => run_load_blk (by kernel_rfl) (h.get 0 rfl) Tryd.underlying26 rfl info26)) ?_
        refine AllSure.cons (OpSure.take (v := arr a) (by kernel_rfl) (by kernel_rfl) (fun _ h => run_load_blk (by kernel_rfl) (h.get 3 rfl) Tryd.underlying26 rfl info26)) ?_
        refine AllSure.cons (sure_call (v := .bool true) (by kernel_rfl) (by kernel_rfl) enter30 HA.keep #[arr r, arr a] (by kernel_rfl) (fun w' h' => Same_yes r a hrP ha hR w')) ?_
        refine AllSure.cons (OpSure.take (v := .bool false) (by kernel_rfl) (by kernel_rfl) (fun _ _ => (by kernel_rfl))) ?_
        refine AllSure.cons (OpSure.take (v := .bool false) (by kernel_rfl) (by kernel_rfl) (fun _ _ => (by kernel_rfl))) ?_
        refine AllSure.cons (OpSure.skip (by kernel_rfl) (by kernel_rfl)) ?_
        refine AllSure.cons (OpSure.skip (by kernel_rfl) (by kernel_rfl)) ?_
        refine AllSure.cons (OpSure.skip (by kernel_rfl) (by kernel_rfl)) ?_
        refine AllSure.cons (OpSure.skip (by kernel_rfl) (by kernel_rfl)) ?_
        refine AllSure.cons (OpSure.skip (by kernel_rfl) (by kernel_rfl)) ?_
        refine AllSure.cons (OpSure.take (v := .bool false) (by kernel_rfl) (by kernel_rfl) (fun _ _ => (by kernel_rfl))) ?_
        refine AllSure.cons (OpSure.take (v := .bool false) (by kernel_rfl) (by kernel_rfl) (fun _ _ => (by kernel_rfl))) ?_
        exact AllSure.nil
      intro w31 h32
      exact then_I ⟨fun i => ([(32, .bool true), (33, .bool false), (34, .bool false), (35, arr r), (36, .bool false), (37, .bool false), (38, .bool false), (39, arr r), (40, arr a), (41, .bool true), (42, .bool false), (43, .bool false), (44, undef), (45, undef), (46, undef), (47, undef), (48, undef), (49, .bool false)].find? (·.1 == i)).elim undef (·.2), by kernel_rfl, h32⟩
    · -- region 6
      refine wp_region_sure ⟨(.agg c0 :: .agg c1 :: pt q1 :: pt q4 :: .bool false :: pt q13 :: pt q14 :: pt q17 :: pt q26 :: .bool true :: un :: un :: un :: un :: un :: un :: un :: un :: .bool true :: .bool false :: .agg c0 :: arr a :: .agg c1 :: arr b :: arr 0 :: .tuple #[arr r, .bool true] :: arr a :: arr a :: arr (mulP a a) :: .tuple #[arr r, .bool true] :: arr r :: .bool true :: .bool true :: .bool false :: .bool false :: arr r :: .bool false :: .bool false :: .bool false :: arr r :: arr a :: .bool false :: .bool true :: .bool true :: arr r :: arr a :: arr (negP a) :: .bool true :: .bool false :: .bool false :: .bool false :: List.replicate 74 un).toArray, []⟩ (HA w [(q26, 26, el r), (q17, 26, el 0), (q14, 26, el b), (q13, 26, el a), (q4, 40, c1), (q1, 40, c0)]) [.bool true, .bool false, .bool false, arr r, .bool false, .bool false, .bool false, arr r, arr a, .bool false, .bool true, .bool true, arr r, arr a, arr (negP a), .bool true, .bool false, .bool false, .bool false] (by kernel_rfl) (by kernel_rfl) (by kernel_rfl) (by kernel_rfl) (fun _ _ _ h => h) h30.drew ?_ ?_
      · refine AllSure.cons (OpSure.take (v := .bool true) (by kernel_rfl) (by kernel_rfl) (fun _ _ => (by kernel_rfl))) ?_
        refine AllSure.cons (OpSure.take (v := .bool false) (by kernel_rfl) (by kernel_rfl) (fun _ _ => (by kernel_rfl))) ?_
        refine AllSure.cons (OpSure.take (v := .bool false) (by kernel_rfl) (by kernel_rfl) (fun _ _ => (by kernel_rfl))) ?_
        refine AllSure.cons (OpSure.take (v := arr r) (by kernel_rfl) (by kernel_rfl) (fun _ h => run_load_blk (by kernel_rfl) (h.get 0 rfl) Tryd.underlying26 rfl info26)) ?_
        refine AllSure.cons (sure_call (v := .bool false) (by kernel_rfl) (by kernel_rfl) enter15 HA.keep #[arr r] (by kernel_rfl) (fun w' h' => Odd_no r hr2 w')) ?_
        refine AllSure.cons (OpSure.take (v := .bool false) (by kernel_rfl) (by kernel_rfl) (fun _ _ => (by kernel_rfl))) ?_
        refine AllSure.cons (OpSure.take (v := .bool false) (by kernel_rfl) (by kernel_rfl) (fun _ _ => (by kernel_rfl))) ?_
        refine AllSure.cons (OpSure.take (v := arr r) (by kernel_rfl) (by kernel_rfl) (fun _ h => run_load_blk (by kernel_rfl) (h.get 0 rfl) Tryd.underlying26 rfl info26)) ?_
        refine AllSure.cons (OpSure.take (v := arr a) (by kernel_rfl) (by kernel_rfl) (fun _ h => run_load_blk (by kernel_rfl) (h.get 3 rfl) Tryd.underlying26 rfl info26)) ?_
        refine AllSure.cons (sure_call (v := .bool false) (by kernel_rfl) (by kernel_rfl) enter30 HA.keep #[arr r, arr a] (by kernel_rfl) (fun w' h' => Same_no r a hrP ha hR w')) ?_
        refine AllSure.cons (OpSure.take (v := .bool true) (by kernel_rfl) (by kernel_rfl) (fun _ _ => (by kernel_rfl))) ?_
        refine AllSure.cons (OpSure.take (v := .bool true) (by kernel_rfl) (by kernel_rfl) (fun _ _ => (by kernel_rfl))) ?_
        refine AllSure.cons (OpSure.take (v := arr r) (by kernel_rfl) (by kernel_rfl) (fun _ h => run_load_blk (by kernel_rfl) (h.get 0 rfl) Tryd.underlying26 rfl info26)) ?_
        refine AllSure.cons (OpSure.take (v := arr a) (by kernel_rfl) (by kernel_rfl) (fun _ h => run_load_blk (by kernel_rfl) (h.get 3 rfl) Tryd.underlying26 rfl info26)) ?_
        refine AllSure.cons (sure_call (v := arr (negP a)) (by kernel_rfl) (by kernel_rfl) enter28 HA.keep #[arr a] (by kernel_rfl) (fun w' h' => Neg_any a ha w' (VV.out.below h'.old VV.out.big))) ?_
        refine AllSure.cons (sure_call (v := .bool true) (by kernel_rfl) (by kernel_rfl) enter30 HA.keep #[arr r, arr (negP a)] (by kernel_rfl) (fun w' h' => Same_yes r (negP a) hrP (negP_lt _) hR' w')) ?_
        refine AllSure.cons (OpSure.take (v := .bool false) (by kernel_rfl) (by kernel_rfl) (fun _ _ => (by kernel_rfl))) ?_
        refine AllSure.cons (OpSure.take (v := .bool false) (by kernel_rfl) (by kernel_rfl) (fun _ _ => (by kernel_rfl))) ?_
        refine AllSure.cons (OpSure.take (v := .bool false) (by kernel_rfl) (by kernel_rfl) (fun _ _ => (by kernel_rfl))) ?_
        exact AllSure.nil
      intro w33 h34
      exact then_I ⟨fun i => ([(32, .bool true), (33, .bool false), (34, .bool false), (35, arr r), (36, .bool false), (37, .bool false), (38, .bool false), (39, arr r), (40, arr a), (41, .bool false), (42, .bool true), (43, .bool true), (44, arr r), (45, arr a), (46, arr (negP a)), (47, .bool true), (48, .bool false), (49, .bool false)].find? (·.1 == i)).elim undef (·.2), by kernel_rfl, h34⟩
  rintro _ w35 ⟨u, rfl, h36⟩
  refine wp_cond_false (by kernel_rfl) ?_
  refine wp_skip ?_
  refine then_at (F := ⟨(.agg c0 :: .agg c1 :: pt q1 :: pt q4 :: .bool false :: pt q13 :: pt q14 :: pt q17 :: pt q26 :: .bool true :: un :: un :: un :: un :: un :: un :: un :: un :: .bool true :: .bool false :: .agg c0 :: arr a :: .agg c1 :: arr b :: arr 0 :: .tuple #[arr r, .bool true] :: arr a :: arr a :: arr (mulP a a) :: .tuple #[arr r, .bool true] :: arr r :: .bool true :: u 32 :: u 33 :: u 34 :: u 35 :: u 36 :: u 37 :: u 38 :: u 39 :: u 40 :: u 41 :: u 42 :: u 43 :: u 44 :: u 45 :: u 46 :: u 47 :: u 48 :: u 49 :: .bool false :: List.replicate 74 un).toArray, []⟩) (by kernel_rfl) ?_
  refine wp_seq ?_
  -- region 8
  refine wl_region ?_
  refine wl_load h36 3 rfl (by kernel_rfl) (by kernel_rfl) Tryd.underlying26 rfl info26 ?_
  refine wl_call (v := .tuple #[arr s, .bool true]) h36 (by kernel_rfl) enter31 #[arr a] (by kernel_rfl) (Root_yes rfl ha rt1 w35 (VV.out.below h36.old VV.out.big)) ?_
  intro w37 h38
  refine wl_val (.tuple #[arr s, .bool true]) (by kernel_rfl) (by kernel_rfl) ?_
  refine wl_val (arr s) (by kernel_rfl) (by kernel_rfl) ?_
  refine wl_val (.bool true) (by kernel_rfl) (by kernel_rfl) ?_
  refine wl_make h38 26 (by kernel_rfl) run_alloc26 ?_
  intro q39 w40 h41
  refine wl_fill (c' := el s) h41 0 rfl (by kernel_rfl) (by kernel_rfl) (by kernel_rfl) rfl info26 (one_el _) ?_
  intro w42 (h43 : HA w [(q39, 26, el s), (q26, 26, el r), (q17, 26, el 0), (q14, 26, el b), (q13, 26, el a), (q4, 40, c1), (q1, 40, c0)] w42)
  refine wl_val (.bool true) (by kernel_rfl) (by kernel_rfl) ?_
  refine wl_nil ?_
  refine then_at (F := ⟨(.agg c0 :: .agg c1 :: pt q1 :: pt q4 :: .bool false :: pt q13 :: pt q14 :: pt q17 :: pt q26 :: .bool true :: pt q39 :: .bool true :: un :: un :: un :: un :: un :: un :: .bool true :: .bool false :: .agg c0 :: arr a :: .agg c1 :: arr b :: arr 0 :: .tuple #[arr r, .bool true] :: arr a :: arr a :: arr (mulP a a) :: .tuple #[arr r, .bool true] :: arr r :: .bool true :: u 32 :: u 33 :: u 34 :: u 35 :: u 36 :: u 37 :: u 38 :: u 39 :: u 40 :: u 41 :: u 42 :: u 43 :: u 44 :: u 45 :: u 46 :: u 47 :: u 48 :: u 49 :: .bool false :: .tuple #[arr s, .bool true] :: arr a :: .tuple #[arr s, .bool true] :: arr s :: .bool true :: List.replicate 69 un).toArray, []⟩) (by kernel_rfl) ?_
  refine wp_seq ?_
  -- region 9
  refine wl_region ?_
  refine wl_load h43 4 rfl (by kernel_rfl) (by kernel_rfl) Tryd.underlying26 rfl info26 ?_
  refine wl_load h43 4 rfl (by kernel_rfl) (by kernel_rfl) Tryd.underlying26 rfl info26 ?_
  refine wl_call (v := arr (addP a a)) h43 (by kernel_rfl) enter22 #[arr a, arr a] (by kernel_rfl) (Add_any a a ha ha w42 (VV.out.below h43.old VV.out.big)) ?_
  intro w44 h45
  refine wl_call (v := .tuple #[arr 0, .bool false]) h45 (by kernel_rfl) enter31 #[arr (addP a a)] (by kernel_rfl) (Root_no rfl (addP_lt _ _) rt2 w44 (VV.out.below h45.old VV.out.big)) ?_
  intro w46 h47
  refine wl_val (.tuple #[arr 0, .bool false]) (by kernel_rfl) (by kernel_rfl) ?_
  refine wl_val (arr 0) (by kernel_rfl) (by kernel_rfl) ?_
  refine wl_val (.bool false) (by kernel_rfl) (by kernel_rfl) ?_
  refine wl_make h47 26 (by kernel_rfl) run_alloc26 ?_
  intro q48 w49 h50
  refine wl_fill (c' := el 0) h50 0 rfl (by kernel_rfl) (by kernel_rfl) (by kernel_rfl) rfl info26 (one_el _) ?_
  intro w51 (h52 : HA w [(q48, 26, el 0), (q39, 26, el s), (q26, 26, el r), (q17, 26, el 0), (q14, 26, el b), (q13, 26, el a), (q4, 40, c1), (q1, 40, c0)] w51)
  refine wl_val (.bool false) (by kernel_rfl) (by kernel_rfl) ?_
  refine wl_nil ?_
  refine then_at (F := ⟨(.agg c0 :: .agg c1 :: pt q1 :: pt q4 :: .bool false :: pt q13 :: pt q14 :: pt q17 :: pt q26 :: .bool true :: pt q39 :: .bool true :: pt q48 :: .bool false :: un :: un :: un :: un :: .bool true :: .bool false :: .agg c0 :: arr a :: .agg c1 :: arr b :: arr 0 :: .tuple #[arr r, .bool true] :: arr a :: arr a :: arr (mulP a a) :: .tuple #[arr r, .bool true] :: arr r :: .bool true :: u 32 :: u 33 :: u 34 :: u 35 :: u 36 :: u 37 :: u 38 :: u 39 :: u 40 :: u 41 :: u 42 :: u 43 :: u 44 :: u 45 :: u 46 :: u 47 :: u 48 :: u 49 :: .bool false :: .tuple #[arr s, .bool true] :: arr a :: .tuple #[arr s, .bool true] :: arr s :: .bool true :: .tuple #[arr 0, .bool false] :: arr a :: arr a :: arr (addP a a) :: .tuple #[arr 0, .bool false] :: arr 0 :: .bool false :: List.replicate 62 un).toArray, []⟩) (by kernel_rfl) ?_
  refine wp_seq ?_
  refine wp_seq ?_
  -- region 10
  refine wp_region_sure ⟨(.agg c0 :: .agg c1 :: pt q1 :: pt q4 :: .bool false :: pt q13 :: pt q14 :: pt q17 :: pt q26 :: .bool true :: pt q39 :: .bool true :: pt q48 :: .bool false :: un :: un :: un :: un :: .bool true :: .bool false :: .agg c0 :: arr a :: .agg c1 :: arr b :: arr 0 :: .tuple #[arr r, .bool true] :: arr a :: arr a :: arr (mulP a a) :: .tuple #[arr r, .bool true] :: arr r :: .bool true :: u 32 :: u 33 :: u 34 :: u 35 :: u 36 :: u 37 :: u 38 :: u 39 :: u 40 :: u 41 :: u 42 :: u 43 :: u 44 :: u 45 :: u 46 :: u 47 :: u 48 :: u 49 :: .bool false :: .tuple #[arr s, .bool true] :: arr a :: .tuple #[arr s, .bool true] :: arr s :: .bool true :: .tuple #[arr 0, .bool false] :: arr a :: arr a :: arr (addP a a) :: .tuple #[arr 0, .bool false] :: arr 0 :: .bool false :: .bool true :: .bool true :: arr s :: arr s :: arr (mulP s s) :: arr a :: .bool true :: .bool false :: .bool false :: .bool false :: .bool true :: .bool false :: .bool false :: un :: un :: un :: un :: .bool false :: .bool false :: List.replicate 43 un).toArray, []⟩ (HA w [(q48, 26, el 0), (q39, 26, el s), (q26, 26, el r), (q17, 26, el 0), (q14, 26, el b), (q13, 26, el a), (q4, 40, c1), (q1, 40, c0)]) [.bool true, .bool true, arr s, arr s, arr (mulP s s), arr a, .bool true, .bool false, .bool false, .bool false, .bool true, .bool false, .bool false, undef, undef, undef, undef, .bool false, .bool false] (by kernel_rfl) (by kernel_rfl) (by kernel_rfl) (by kernel_rfl) (fun _ _ _ h => h) h52.drew ?_ ?_
  · refine AllSure.cons (OpSure.take (v := .bool true) (by kernel_rfl) (by kernel_rfl) (fun _ _ => (by kernel_rfl))) ?_
    refine AllSure.cons (OpSure.take (v := .bool true) (by kernel_rfl) (by kernel_rfl) (fun _ _ => (by kernel_rfl))) ?_
    refine AllSure.cons (OpSure.take (v := arr s) (by kernel_rfl) (by kernel_rfl) (fun _ h => run_load_blk (by kernel_rfl) (h.get 1 rfl) Tryd.underlying26 rfl info26)) ?_
    refine AllSure.cons (OpSure.take (v := arr s) (by kernel_rfl) (by kernel_rfl) (fun _ h => run_load_blk (by kernel_rfl) (h.get 1 rfl) Tryd.underlying26 rfl info26)) ?_
    refine AllSure.cons (sure_call (v := arr (mulP s s)) (by kernel_rfl) (by kernel_rfl) enter26 HA.keep #[arr s, arr s] (by kernel_rfl) (fun w' h' => Mul_any s s hsP hsP w' (VV.out.below h'.old VV.out.big))) ?_
    refine AllSure.cons (OpSure.take (v := arr a) (by kernel_rfl) (by kernel_rfl) (fun _ h => run_load_blk (by kernel_rfl) (h.get 5 rfl) Tryd.underlying26 rfl info26)) ?_
    refine AllSure.cons (sure_call (v := .bool true) (by kernel_rfl) (by kernel_rfl) enter30 HA.keep #[arr (mulP s s), arr a] (by kernel_rfl) (fun w' h' => Same_yes (mulP s s) a (mulP_lt _ _) ha hss w')) ?_
    refine AllSure.cons (OpSure.take (v := .bool false) (by kernel_rfl) (by kernel_rfl) (fun _ _ => (by kernel_rfl))) ?_
    refine AllSure.cons (OpSure.take (v := .bool false) (by kernel_rfl) (by kernel_rfl) (fun _ _ => (by kernel_rfl))) ?_
    refine AllSure.cons (OpSure.take (v := .bool false) (by kernel_rfl) (by kernel_rfl) (fun _ _ => (by kernel_rfl))) ?_
    refine AllSure.cons (OpSure.take (v := .bool true) (by kernel_rfl) (by kernel_rfl) (fun _ _ => (by kernel_rfl))) ?_
    refine AllSure.cons (OpSure.take (v := .bool false) (by kernel_rfl) (by kernel_rfl) (fun _ _ => (by kernel_rfl))) ?_
    refine AllSure.cons (OpSure.take (v := .bool false) (by kernel_rfl) (by kernel_rfl) (fun _ _ => (by kernel_rfl))) ?_
    refine AllSure.cons (OpSure.skip (by kernel_rfl) (by kernel_rfl)) ?_
    refine AllSure.cons (OpSure.skip (by kernel_rfl) (by kernel_rfl)) ?_
    refine AllSure.cons (OpSure.skip (by kernel_rfl) (by kernel_rfl)) ?_
    refine AllSure.cons (OpSure.skip (by kernel_rfl) (by kernel_rfl)) ?_
    refine AllSure.cons (OpSure.take (v := .bool false) (by kernel_rfl) (by kernel_rfl) (fun _ _ => (by kernel_rfl))) ?_
    refine AllSure.cons (OpSure.take (v := .bool false) (by kernel_rfl) (by kernel_rfl) (fun _ _ => (by kernel_rfl))) ?_
    exact AllSure.nil
  intro w53 h54
  refine then_at (F := ⟨(.agg c0 :: .agg c1 :: pt q1 :: pt q4 :: .bool false :: pt q13 :: pt q14 :: pt q17 :: pt q26 :: .bool true :: pt q39 :: .bool true :: pt q48 :: .bool false :: un :: un :: un :: un :: .bool true :: .bool false :: .agg c0 :: arr a :: .agg c1 :: arr b :: arr 0 :: .tuple #[arr r, .bool true] :: arr a :: arr a :: arr (mulP a a) :: .tuple #[arr r, .bool true] :: arr r :: .bool true :: u 32 :: u 33 :: u 34 :: u 35 :: u 36 :: u 37 :: u 38 :: u 39 :: u 40 :: u 41 :: u 42 :: u 43 :: u 44 :: u 45 :: u 46 :: u 47 :: u 48 :: u 49 :: .bool false :: .tuple #[arr s, .bool true] :: arr a :: .tuple #[arr s, .bool true] :: arr s :: .bool true :: .tuple #[arr 0, .bool false] :: arr a :: arr a :: arr (addP a a) :: .tuple #[arr 0, .bool false] :: arr 0 :: .bool false :: .bool true :: .bool true :: arr s :: arr s :: arr (mulP s s) :: arr a :: .bool true :: .bool false :: .bool false :: .bool false :: .bool true :: .bool false :: .bool false :: un :: un :: un :: un :: .bool false :: .bool false :: List.replicate 43 un).toArray, []⟩) (by kernel_rfl) ?_
  refine wp_cond_false (by kernel_rfl) ?_
  refine wp_skip ?_
  refine then_at (F := ⟨(.agg c0 :: .agg c1 :: pt q1 :: pt q4 :: .bool false :: pt q13 :: pt q14 :: pt q17 :: pt q26 :: .bool true :: pt q39 :: .bool true :: pt q48 :: .bool false :: un :: un :: un :: un :: .bool true :: .bool false :: .agg c0 :: arr a :: .agg c1 :: arr b :: arr 0 :: .tuple #[arr r, .bool true] :: arr a :: arr a :: arr (mulP a a) :: .tuple #[arr r, .bool true] :: arr r :: .bool true :: u 32 :: u 33 :: u 34 :: u 35 :: u 36 :: u 37 :: u 38 :: u 39 :: u 40 :: u 41 :: u 42 :: u 43 :: u 44 :: u 45 :: u 46 :: u 47 :: u 48 :: u 49 :: .bool false :: .tuple #[arr s, .bool true] :: arr a :: .tuple #[arr s, .bool true] :: arr s :: .bool true :: .tuple #[arr 0, .bool false] :: arr a :: arr a :: arr (addP a a) :: .tuple #[arr 0, .bool false] :: arr 0 :: .bool false :: .bool true :: .bool true :: arr s :: arr s :: arr (mulP s s) :: arr a :: .bool true :: .bool false :: .bool false :: .bool false :: .bool true :: .bool false :: .bool false :: un :: un :: un :: un :: .bool false :: .bool false :: List.replicate 43 un).toArray, []⟩) (by kernel_rfl) ?_
  refine wp_seq ?_
  refine wp_seq ?_
  -- region 12
  refine wl_region ?_
  refine wl_load h54 5 rfl (by kernel_rfl) (by kernel_rfl) Tryd.underlying26 rfl info26 ?_
  refine wl_load h54 3 rfl (by kernel_rfl) (by kernel_rfl) Tryd.underlying26 rfl info26 ?_
  refine wl_call (v := .bool false) h54 (by kernel_rfl) enter30 #[arr a, arr 0] (by kernel_rfl) (Same_no a 0 ha (by decide) hA w53) ?_
  intro w55 h56
  refine wl_val (.bool false) (by kernel_rfl) (by kernel_rfl) ?_
  refine wl_load h56 4 rfl (by kernel_rfl) (by kernel_rfl) Tryd.underlying26 rfl info26 ?_
  refine wl_load h56 3 rfl (by kernel_rfl) (by kernel_rfl) Tryd.underlying26 rfl info26 ?_
  refine wl_call (v := .bool false) h56 (by kernel_rfl) enter30 #[arr b, arr 0] (by kernel_rfl) (Same_no b 0 hb (by decide) hB w55) ?_
  intro w57 h58
  refine wl_val (.bool false) (by kernel_rfl) (by kernel_rfl) ?_
  refine wl_nil ?_
  refine then_at (F := ⟨(.agg c0 :: .agg c1 :: pt q1 :: pt q4 :: .bool false :: pt q13 :: pt q14 :: pt q17 :: pt q26 :: .bool true :: pt q39 :: .bool true :: pt q48 :: .bool false :: un :: un :: un :: un :: .bool true :: .bool false :: .agg c0 :: arr a :: .agg c1 :: arr b :: arr 0 :: .tuple #[arr r, .bool true] :: arr a :: arr a :: arr (mulP a a) :: .tuple #[arr r, .bool true] :: arr r :: .bool true :: u 32 :: u 33 :: u 34 :: u 35 :: u 36 :: u 37 :: u 38 :: u 39 :: u 40 :: u 41 :: u 42 :: u 43 :: u 44 :: u 45 :: u 46 :: u 47 :: u 48 :: u 49 :: .bool false :: .tuple #[arr s, .bool true] :: arr a :: .tuple #[arr s, .bool true] :: arr s :: .bool true :: .tuple #[arr 0, .bool false] :: arr a :: arr a :: arr (addP a a) :: .tuple #[arr 0, .bool false] :: arr 0 :: .bool false :: .bool true :: .bool true :: arr s :: arr s :: arr (mulP s s) :: arr a :: .bool true :: .bool false :: .bool false :: .bool false :: .bool true :: .bool false :: .bool false :: un :: un :: un :: un :: .bool false :: .bool false :: arr a :: arr 0 :: .bool false :: .bool false :: arr b :: arr 0 :: .bool false :: .bool false :: List.replicate 35 un).toArray, []⟩) (by kernel_rfl) ?_
  refine wp_cond_false (by kernel_rfl) ?_
  refine wp_skip ?_
  refine then_at (F := ⟨(.agg c0 :: .agg c1 :: pt q1 :: pt q4 :: .bool false :: pt q13 :: pt q14 :: pt q17 :: pt q26 :: .bool true :: pt q39 :: .bool true :: pt q48 :: .bool false :: un :: un :: un :: un :: .bool true :: .bool false :: .agg c0 :: arr a :: .agg c1 :: arr b :: arr 0 :: .tuple #[arr r, .bool true] :: arr a :: arr a :: arr (mulP a a) :: .tuple #[arr r, .bool true] :: arr r :: .bool true :: u 32 :: u 33 :: u 34 :: u 35 :: u 36 :: u 37 :: u 38 :: u 39 :: u 40 :: u 41 :: u 42 :: u 43 :: u 44 :: u 45 :: u 46 :: u 47 :: u 48 :: u 49 :: .bool false :: .tuple #[arr s, .bool true] :: arr a :: .tuple #[arr s, .bool true] :: arr s :: .bool true :: .tuple #[arr 0, .bool false] :: arr a :: arr a :: arr (addP a a) :: .tuple #[arr 0, .bool false] :: arr 0 :: .bool false :: .bool true :: .bool true :: arr s :: arr s :: arr (mulP s s) :: arr a :: .bool true :: .bool false :: .bool false :: .bool false :: .bool true :: .bool false :: .bool false :: un :: un :: un :: un :: .bool false :: .bool false :: arr a :: arr 0 :: .bool false :: .bool false :: arr b :: arr 0 :: .bool false :: .bool false :: List.replicate 35 un).toArray, []⟩) (by kernel_rfl) ?_
  refine wp_seq ?_
  -- region 14
  refine wl_region ?_
  refine wl_load h58 4 rfl (by kernel_rfl) (by kernel_rfl) Tryd.underlying26 rfl info26 ?_
  refine wl_call (v := .tuple #[arr 0, .bool false]) h58 (by kernel_rfl) enter31 #[arr b] (by kernel_rfl) (Root_no rfl hb rt3 w57 (VV.out.below h58.old VV.out.big)) ?_
  intro w59 h60
  refine wl_val (.tuple #[arr 0, .bool false]) (by kernel_rfl) (by kernel_rfl) ?_
  refine wl_val (arr 0) (by kernel_rfl) (by kernel_rfl) ?_
  refine wl_val (.bool false) (by kernel_rfl) (by kernel_rfl) ?_
  refine wl_make h60 26 (by kernel_rfl) run_alloc26 ?_
  intro q61 w62 h63
  refine wl_fill (c' := el 0) h63 0 rfl (by kernel_rfl) (by kernel_rfl) (by kernel_rfl) rfl info26 (one_el _) ?_
  intro w64 (h65 : HA w [(q61, 26, el 0), (q48, 26, el 0), (q39, 26, el s), (q26, 26, el r), (q17, 26, el 0), (q14, 26, el b), (q13, 26, el a), (q4, 40, c1), (q1, 40, c0)] w64)
  refine wl_val (.bool false) (by kernel_rfl) (by kernel_rfl) ?_
  refine wl_nil ?_
  refine then_at (F := ⟨(.agg c0 :: .agg c1 :: pt q1 :: pt q4 :: .bool false :: pt q13 :: pt q14 :: pt q17 :: pt q26 :: .bool true :: pt q39 :: .bool true :: pt q48 :: .bool false :: pt q61 :: .bool false :: un :: un :: .bool true :: .bool false :: .agg c0 :: arr a :: .agg c1 :: arr b :: arr 0 :: .tuple #[arr r, .bool true] :: arr a :: arr a :: arr (mulP a a) :: .tuple #[arr r, .bool true] :: arr r :: .bool true :: u 32 :: u 33 :: u 34 :: u 35 :: u 36 :: u 37 :: u 38 :: u 39 :: u 40 :: u 41 :: u 42 :: u 43 :: u 44 :: u 45 :: u 46 :: u 47 :: u 48 :: u 49 :: .bool false :: .tuple #[arr s, .bool true] :: arr a :: .tuple #[arr s, .bool true] :: arr s :: .bool true :: .tuple #[arr 0, .bool false] :: arr a :: arr a :: arr (addP a a) :: .tuple #[arr 0, .bool false] :: arr 0 :: .bool false :: .bool true :: .bool true :: arr s :: arr s :: arr (mulP s s) :: arr a :: .bool true :: .bool false :: .bool false :: .bool false :: .bool true :: .bool false :: .bool false :: un :: un :: un :: un :: .bool false :: .bool false :: arr a :: arr 0 :: .bool false :: .bool false :: arr b :: arr 0 :: .bool false :: .bool false :: un :: un :: un :: un :: un :: un :: un :: un :: un :: un :: un :: un :: un :: .tuple #[arr 0, .bool false] :: arr b :: .tuple #[arr 0, .bool false] :: arr 0 :: .bool false :: List.replicate 17 un).toArray, []⟩) (by kernel_rfl) ?_
  refine wp_seq ?_
  -- region 15
  refine wl_region ?_
  refine wl_load h65 6 rfl (by kernel_rfl) (by kernel_rfl) Tryd.underlying26 rfl info26 ?_
  refine wl_load h65 5 rfl (by kernel_rfl) (by kernel_rfl) Tryd.underlying26 rfl info26 ?_
  refine wl_call (v := arr (mulP a b)) h65 (by kernel_rfl) enter26 #[arr a, arr b] (by kernel_rfl) (Mul_any a b ha hb w64 (VV.out.below h65.old VV.out.big)) ?_
  intro w66 h67
  refine wl_call (v := .tuple #[arr 0, .bool false]) h67 (by kernel_rfl) enter31 #[arr (mulP a b)] (by kernel_rfl) (Root_no rfl (mulP_lt _ _) rt4 w66 (VV.out.below h67.old VV.out.big)) ?_
  intro w68 h69
  refine wl_val (.tuple #[arr 0, .bool false]) (by kernel_rfl) (by kernel_rfl) ?_
  refine wl_val (arr 0) (by kernel_rfl) (by kernel_rfl) ?_
  refine wl_val (.bool false) (by kernel_rfl) (by kernel_rfl) ?_
  refine wl_make h69 26 (by kernel_rfl) run_alloc26 ?_
  intro q70 w71 h72
  refine wl_fill (c' := el 0) h72 0 rfl (by kernel_rfl) (by kernel_rfl) (by kernel_rfl) rfl info26 (one_el _) ?_
  intro w73 (h74 : HA w [(q70, 26, el 0), (q61, 26, el 0), (q48, 26, el 0), (q39, 26, el s), (q26, 26, el r), (q17, 26, el 0), (q14, 26, el b), (q13, 26, el a), (q4, 40, c1), (q1, 40, c0)] w73)
  refine wl_val (.bool false) (by kernel_rfl) (by kernel_rfl) ?_
  refine wl_nil ?_
  refine then_at (F := ⟨(.agg c0 :: .agg c1 :: pt q1 :: pt q4 :: .bool false :: pt q13 :: pt q14 :: pt q17 :: pt q26 :: .bool true :: pt q39 :: .bool true :: pt q48 :: .bool false :: pt q61 :: .bool false :: pt q70 :: .bool false :: .bool true :: .bool false :: .agg c0 :: arr a :: .agg c1 :: arr b :: arr 0 :: .tuple #[arr r, .bool true] :: arr a :: arr a :: arr (mulP a a) :: .tuple #[arr r, .bool true] :: arr r :: .bool true :: u 32 :: u 33 :: u 34 :: u 35 :: u 36 :: u 37 :: u 38 :: u 39 :: u 40 :: u 41 :: u 42 :: u 43 :: u 44 :: u 45 :: u 46 :: u 47 :: u 48 :: u 49 :: .bool false :: .tuple #[arr s, .bool true] :: arr a :: .tuple #[arr s, .bool true] :: arr s :: .bool true :: .tuple #[arr 0, .bool false] :: arr a :: arr a :: arr (addP a a) :: .tuple #[arr 0, .bool false] :: arr 0 :: .bool false :: .bool true :: .bool true :: arr s :: arr s :: arr (mulP s s) :: arr a :: .bool true :: .bool false :: .bool false :: .bool false :: .bool true :: .bool false :: .bool false :: un :: un :: un :: un :: .bool false :: .bool false :: arr a :: arr 0 :: .bool false :: .bool false :: arr b :: arr 0 :: .bool false :: .bool false :: un :: un :: un :: un :: un :: un :: un :: un :: un :: un :: un :: un :: un :: .tuple #[arr 0, .bool false] :: arr b :: .tuple #[arr 0, .bool false] :: arr 0 :: .bool false :: .tuple #[arr 0, .bool false] :: arr a :: arr b :: arr (mulP a b) :: .tuple #[arr 0, .bool false] :: arr 0 :: .bool false :: List.replicate 10 un).toArray, []⟩) (by kernel_rfl) ?_
  refine wp_seq ?_
  -- region 16
  refine wl_region ?_
  refine wl_val (.bool true) (by kernel_rfl) (by kernel_rfl) ?_
  refine wl_val (.bool false) (by kernel_rfl) (by kernel_rfl) ?_
  refine wl_val (.bool true) (by kernel_rfl) (run_neb true false (by kernel_rfl) (by kernel_rfl)) ?_
  refine wl_val (.bool true) (by kernel_rfl) (by kernel_rfl) ?_
  refine wl_val (.bool false) (by kernel_rfl) (by kernel_rfl) ?_
  refine wl_val (.bool true) (by kernel_rfl) (by kernel_rfl) ?_
  refine wl_val (.bool false) (by kernel_rfl) (by kernel_rfl) ?_
  refine wl_val (.bool false) (by kernel_rfl) (run_eqb true false (by kernel_rfl) (by kernel_rfl)) ?_
  refine wl_val (.bool true) (by kernel_rfl) (run_eqb false false (by kernel_rfl) (by kernel_rfl)) ?_
  refine wl_val (.bool true) (by kernel_rfl) (by kernel_rfl) ?_
  refine wl_val (.bool true) (by kernel_rfl) (by kernel_rfl) ?_
  refine wl_nil ?_
  refine then_at (F := ⟨(.agg c0 :: .agg c1 :: pt q1 :: pt q4 :: .bool true :: pt q13 :: pt q14 :: pt q17 :: pt q26 :: .bool true :: pt q39 :: .bool true :: pt q48 :: .bool false :: pt q61 :: .bool false :: pt q70 :: .bool false :: .bool true :: .bool false :: .agg c0 :: arr a :: .agg c1 :: arr b :: arr 0 :: .tuple #[arr r, .bool true] :: arr a :: arr a :: arr (mulP a a) :: .tuple #[arr r, .bool true] :: arr r :: .bool true :: u 32 :: u 33 :: u 34 :: u 35 :: u 36 :: u 37 :: u 38 :: u 39 :: u 40 :: u 41 :: u 42 :: u 43 :: u 44 :: u 45 :: u 46 :: u 47 :: u 48 :: u 49 :: .bool false :: .tuple #[arr s, .bool true] :: arr a :: .tuple #[arr s, .bool true] :: arr s :: .bool true :: .tuple #[arr 0, .bool false] :: arr a :: arr a :: arr (addP a a) :: .tuple #[arr 0, .bool false] :: arr 0 :: .bool false :: .bool true :: .bool true :: arr s :: arr s :: arr (mulP s s) :: arr a :: .bool true :: .bool false :: .bool false :: .bool false :: .bool true :: .bool false :: .bool false :: un :: un :: un :: un :: .bool false :: .bool false :: arr a :: arr 0 :: .bool false :: .bool false :: arr b :: arr 0 :: .bool false :: .bool false :: un :: un :: un :: un :: un :: un :: un :: un :: un :: un :: un :: un :: un :: .tuple #[arr 0, .bool false] :: arr b :: .tuple #[arr 0, .bool false] :: arr 0 :: .bool false :: .tuple #[arr 0, .bool false] :: arr a :: arr b :: arr (mulP a b) :: .tuple #[arr 0, .bool false] :: arr 0 :: .bool false :: .bool true :: .bool false :: .bool true :: .bool true :: .bool false :: .bool true :: .bool false :: .bool false :: .bool true :: .bool true :: List.replicate 0 un).toArray, []⟩) (by kernel_rfl) ?_
  refine wp_ret ?_
  repeat first | refine then_ret ?_ | refine block_ret ?_
  exact bodyPost_ret (v := .bool true) (by kernel_rfl) rfl ⟨rfl, h74.old⟩
set_option linter.unusedVariables false in
set_option maxRecDepth 100000 in
set_option maxHeartbeats 4000000 in
theorem sq_c3 (c0 c1 : Array Value) (a b r : Nat) (hz0 : c0.size = 32) (hz1 : c1.size = 32) (ha : a < P) (hb : b < P) (hr : rootP (mulP a a) = some r) (hr2 : r % 2 = 0) (hrP : r < P) (hR : r = a ∨ r ≠ a ∧ r = negP a) (hA : a ≠ 0) (hB : b ≠ 0) (rt1 : rootP a = none) (t : Nat) (rt2 : rootP (addP a a) = some t) (htP : t < P) (o : Nat) (rt3 : rootP b = some o) (hoP : o < P) (rt4 : rootP (mulP a b) = none)
    (KA : ∀ w, Vars w → Calls Tryd.prog 20 #[.agg c0] w fun e w' => e = .returned (arr a) ∧ Below w.heap.size w w')
    (KB : ∀ w, Vars w → Calls Tryd.prog 20 #[.agg c1] w fun e w' => e = .returned (arr b) ∧ Below w.heap.size w w') (w : World) (V : Vars w) :
    Calls Tryd.prog 8 #[.agg c0, .agg c1] w fun e w' => e = .returned (.bool true) ∧ Below w.heap.size w w' := by
  have VV := hide V
  have H0 := HA.start w
  clear V
  go_enter Tryd.func8, Tryd.ntmps8
  refine wp_seq ?_
  -- region 0
  refine wl_region ?_
  refine wl_make H0 40 (by kernel_rfl) (run_box40 (c := c0) (by kernel_rfl)) ?_
  intro q1 w2 h3
  refine wl_make h3 40 (by kernel_rfl) (run_box40 (c := c1) (by kernel_rfl)) ?_
  intro q4 w5 h6
  refine wl_val (.bool false) (by kernel_rfl) (by kernel_rfl) ?_
  refine wl_nil ?_
  refine then_at (F := ⟨(.agg c0 :: .agg c1 :: pt q1 :: pt q4 :: .bool false :: List.replicate 120 un).toArray, []⟩) (by kernel_rfl) ?_
  refine wp_seq ?_
  refine wp_seq ?_
  -- region 1
  refine wl_region ?_
  refine wl_call (v := .bool true) h6 (by kernel_rfl) enter19 #[] (by kernel_rfl) (works_any w5 (VV.out.below h6.old VV.out.big)) ?_
  intro w7 h8
  refine wl_val (.bool false) (by kernel_rfl) (by kernel_rfl) ?_
  refine wl_nil ?_
  refine then_at (F := ⟨(.agg c0 :: .agg c1 :: pt q1 :: pt q4 :: .bool false :: un :: un :: un :: un :: un :: un :: un :: un :: un :: un :: un :: un :: un :: .bool true :: .bool false :: List.replicate 105 un).toArray, []⟩) (by kernel_rfl) ?_
  refine wp_cond_false (by kernel_rfl) ?_
  refine wp_skip ?_
  refine then_at (F := ⟨(.agg c0 :: .agg c1 :: pt q1 :: pt q4 :: .bool false :: un :: un :: un :: un :: un :: un :: un :: un :: un :: un :: un :: un :: un :: .bool true :: .bool false :: List.replicate 105 un).toArray, []⟩) (by kernel_rfl) ?_
  refine wp_seq ?_
  -- region 3
  obtain ⟨B9, eB9⟩ : ∃ B, B = w7.heap.size := ⟨_, rfl⟩
  refine wp_region_ghost (fun g : Nat → Nat => (⟨(.agg c0 :: .agg c1 :: pt q1 :: pt q4 :: .bool false :: pt (g 4) :: pt (g 5) :: un :: un :: un :: un :: un :: un :: un :: un :: un :: un :: un :: .bool true :: .bool false :: .agg c0 :: arr a :: .agg c1 :: arr b :: List.replicate 101 un).toArray, []⟩ : Act)) (GS w [(q4, 40, c1), (q1, 40, c0)] B9 2 4 6 26 (el 0) (fun j => el ([a, b].getD j a))) [.agg c0, arr a, .agg c1, arr b, .pointer (some ⟨0, 0, none⟩), .pointer (some ⟨0, 0, none⟩), undef, undef] (by kernel_rfl) (by kernel_rfl) (by kernel_rfl) (by kernel_rfl) (fun _ _ _ _ h => h) (fun d hd => GS.start h8.drew eB9 (by decide) (fun _ _ => rfl) (fun j hj => hd j (Nat.lt_of_lt_of_le hj (by decide)))) ?_ ?_
  · refine AllGhost.cons (ghost_load 1 rfl (by decide) (fun _ => by kernel_rfl) (fun _ => by kernel_rfl) (fun _ => by kernel_rfl) Tryd.underlying40 rfl (by first | (show _ = some c0.size; rw [hz0]; exact info40) | (show _ = some c1.size; rw [hz1]; exact info40))) ?_
    refine AllGhost.cons (ghost_call (v := arr a) (by decide) (fun _ => by kernel_rfl) (fun _ => by kernel_rfl) enter20 #[.agg c0] (fun _ => by kernel_rfl) (fun w' h' => KA w' (VV.out.below h'.old VV.out.big))) ?_
    refine AllGhost.cons (ghost_load 0 rfl (by decide) (fun _ => by kernel_rfl) (fun _ => by kernel_rfl) (fun _ => by kernel_rfl) Tryd.underlying40 rfl (by first | (show _ = some c0.size; rw [hz0]; exact info40) | (show _ = some c1.size; rw [hz1]; exact info40))) ?_
    refine AllGhost.cons (ghost_call (v := arr b) (by decide) (fun _ => by kernel_rfl) (fun _ => by kernel_rfl) enter20 #[.agg c1] (fun _ => by kernel_rfl) (fun w' h' => KB w' (VV.out.below h'.old VV.out.big))) ?_
    refine AllGhost.cons (ghost_make 0 (by decide) rfl (fun _ => by kernel_rfl) (fun _ _ => by kernel_rfl) (fun _ _ => run_alloc26)) ?_
    refine AllGhost.cons (ghost_make 1 (by decide) rfl (fun _ => by kernel_rfl) (fun _ _ => by kernel_rfl) (fun _ _ => run_alloc26)) ?_
    refine AllGhost.cons (ghost_fill 0 (by decide) rfl (fun _ => by kernel_rfl) (fun _ => by kernel_rfl) (fun _ => by kernel_rfl) (fun _ => by kernel_rfl) info26 (one_el _) (by kernel_rfl)) ?_
    refine AllGhost.cons (ghost_fill 1 (by decide) rfl (fun _ => by kernel_rfl) (fun _ => by kernel_rfl) (fun _ => by kernel_rfl) (fun _ => by kernel_rfl) info26 (one_el _) (by kernel_rfl)) ?_
    exact AllGhost.nil
  intro g w10 g11
  have h12 : HA w [(g 5, 26, el b), (g 4, 26, el a), (q4, 40, c1), (q1, 40, c0)] w10 := g11.two
  clear g11 eB9
  generalize g 4 = q13 at h12 ⊢
  generalize g 5 = q14 at h12 ⊢
  clear g
  refine then_at (F := ⟨(.agg c0 :: .agg c1 :: pt q1 :: pt q4 :: .bool false :: pt q13 :: pt q14 :: un :: un :: un :: un :: un :: un :: un :: un :: un :: un :: un :: .bool true :: .bool false :: .agg c0 :: arr a :: .agg c1 :: arr b :: List.replicate 101 un).toArray, []⟩) (by kernel_rfl) ?_
  refine wp_seq ?_
  -- region 4
  refine wl_region ?_
  refine wl_call (v := arr 0) h12 (by kernel_rfl) enter17 #[iN .u32 0] (by kernel_rfl) (Small_any 0 (by decide) w10) ?_
  intro w15 h16
  refine wl_make h16 26 (by kernel_rfl) run_alloc26 ?_
  intro q17 w18 h19
  refine wl_fill (c' := el 0) h19 0 rfl (by kernel_rfl) (by kernel_rfl) (by kernel_rfl) rfl info26 (one_el _) ?_
  intro w20 (h21 : HA w [(q17, 26, el 0), (q14, 26, el b), (q13, 26, el a), (q4, 40, c1), (q1, 40, c0)] w20)
  refine wl_nil ?_
  refine then_at (F := ⟨(.agg c0 :: .agg c1 :: pt q1 :: pt q4 :: .bool false :: pt q13 :: pt q14 :: pt q17 :: un :: un :: un :: un :: un :: un :: un :: un :: un :: un :: .bool true :: .bool false :: .agg c0 :: arr a :: .agg c1 :: arr b :: arr 0 :: List.replicate 100 un).toArray, []⟩) (by kernel_rfl) ?_
  refine wp_seq ?_
  -- region 5
  refine wl_region ?_
  refine wl_load h21 2 rfl (by kernel_rfl) (by kernel_rfl) Tryd.underlying26 rfl info26 ?_
  refine wl_load h21 2 rfl (by kernel_rfl) (by kernel_rfl) Tryd.underlying26 rfl info26 ?_
  refine wl_call (v := arr (mulP a a)) h21 (by kernel_rfl) enter26 #[arr a, arr a] (by kernel_rfl) (Mul_any a a ha ha w20 (VV.out.below h21.old VV.out.big)) ?_
  intro w22 h23
  refine wl_call (v := .tuple #[arr r, .bool true]) h23 (by kernel_rfl) enter31 #[arr (mulP a a)] (by kernel_rfl) (Root_yes rfl (mulP_lt _ _) hr w22 (VV.out.below h23.old VV.out.big)) ?_
  intro w24 h25
  refine wl_val (.tuple #[arr r, .bool true]) (by kernel_rfl) (by kernel_rfl) ?_
  refine wl_val (arr r) (by kernel_rfl) (by kernel_rfl) ?_
  refine wl_val (.bool true) (by kernel_rfl) (by kernel_rfl) ?_
  refine wl_make h25 26 (by kernel_rfl) run_alloc26 ?_
  intro q26 w27 h28
  refine wl_fill (c' := el r) h28 0 rfl (by kernel_rfl) (by kernel_rfl) (by kernel_rfl) rfl info26 (one_el _) ?_
  intro w29 (h30 : HA w [(q26, 26, el r), (q17, 26, el 0), (q14, 26, el b), (q13, 26, el a), (q4, 40, c1), (q1, 40, c0)] w29)
  refine wl_val (.bool true) (by kernel_rfl) (by kernel_rfl) ?_
  refine wl_nil ?_
  refine then_at (F := ⟨(.agg c0 :: .agg c1 :: pt q1 :: pt q4 :: .bool false :: pt q13 :: pt q14 :: pt q17 :: pt q26 :: .bool true :: un :: un :: un :: un :: un :: un :: un :: un :: .bool true :: .bool false :: .agg c0 :: arr a :: .agg c1 :: arr b :: arr 0 :: .tuple #[arr r, .bool true] :: arr a :: arr a :: arr (mulP a a) :: .tuple #[arr r, .bool true] :: arr r :: .bool true :: List.replicate 93 un).toArray, []⟩) (by kernel_rfl) ?_
  refine wp_seq ?_
  refine wp_seq ?_
  -- region 6, two ways
  refine wp_meet (fun A w' => ∃ u : Nat → Value, A = ⟨(.agg c0 :: .agg c1 :: pt q1 :: pt q4 :: .bool false :: pt q13 :: pt q14 :: pt q17 :: pt q26 :: .bool true :: un :: un :: un :: un :: un :: un :: un :: un :: .bool true :: .bool false :: .agg c0 :: arr a :: .agg c1 :: arr b :: arr 0 :: .tuple #[arr r, .bool true] :: arr a :: arr a :: arr (mulP a a) :: .tuple #[arr r, .bool true] :: arr r :: .bool true :: u 32 :: u 33 :: u 34 :: u 35 :: u 36 :: u 37 :: u 38 :: u 39 :: u 40 :: u 41 :: u 42 :: u 43 :: u 44 :: u 45 :: u 46 :: u 47 :: u 48 :: u 49 :: .bool false :: List.replicate 74 un).toArray, []⟩ ∧ HA w [(q26, 26, el r), (q17, 26, el 0), (q14, 26, el b), (q13, 26, el a), (q4, 40, c1), (q1, 40, c0)] w') ?_ ?_
  · rcases hR with hR | ⟨hR, hR'⟩
    · -- region 6
      refine wp_region_sure ⟨(.agg c0 :: .agg c1 :: pt q1 :: pt q4 :: .bool false :: pt q13 :: pt q14 :: pt q17 :: pt q26 :: .bool true :: un :: un :: un :: un :: un :: un :: un :: un :: .bool true :: .bool false :: .agg c0 :: arr a :: .agg c1 :: arr b :: arr 0 :: .tuple #[arr r, .bool true] :: arr a :: arr a :: arr (mulP a a) :: .tuple #[arr r, .bool true] :: arr r :: .bool true :: .bool true :: .bool false :: .bool false :: arr r :: .bool false :: .bool false :: .bool false :: arr r :: arr a :: .bool true :: .bool false :: .bool false :: un :: un :: un :: un :: un :: .bool false :: .bool false :: List.replicate 74 un).toArray, []⟩ (HA w [(q26, 26, el r), (q17, 26, el 0), (q14, 26, el b), (q13, 26, el a), (q4, 40, c1), (q1, 40, c0)]) [.bool true, .bool false, .bool false, arr r, .bool false, .bool false, .bool false, arr r, arr a, .bool true, .bool false, .bool false, undef, undef, undef, undef, undef, .bool false, .bool false] (by kernel_rfl) (by kernel_rfl) (by kernel_rfl) (by kernel_rfl) (fun _ _ _ h => h) h30.drew ?_ ?_
      · refine AllSure.cons (OpSure.take (v := .bool true) (by kernel_rfl) (by kernel_rfl) (fun _ _ => (by kernel_rfl))) ?_
        refine AllSure.cons (OpSure.take (v := .bool false) (by kernel_rfl) (by kernel_rfl) (fun _ _ => (by kernel_rfl))) ?_
        refine AllSure.cons (OpSure.take (v := .bool false) (by kernel_rfl) (by kernel_rfl) (fun _ _ => (by kernel_rfl))) ?_
        refine AllSure.cons (OpSure.take (v := arr r) (by kernel_rfl) (by kernel_rfl) (fun _ h => run_load_blk (by kernel_rfl) (h.get 0 rfl) Tryd.underlying26 rfl info26)) ?_
        refine AllSure.cons (sure_call (v := .bool false) (by kernel_rfl) (by kernel_rfl) enter15 HA.keep #[arr r] (by kernel_rfl) (fun w' h' => Odd_no r hr2 w')) ?_
        refine AllSure.cons (OpSure.take (v := .bool false) (by kernel_rfl) (by kernel_rfl) (fun _ _ => (by kernel_rfl))) ?_
        refine AllSure.cons (OpSure.take (v := .bool false) (by kernel_rfl) (by kernel_rfl) (fun _ _ => (by kernel_rfl))) ?_
        refine AllSure.cons (OpSure.take (v := arr r) (by kernel_rfl) (by kernel_rfl) (fun _ h => run_load_blk (by kernel_rfl) (h.get 0 rfl) Tryd.underlying26 rfl info26)) ?_
        refine AllSure.cons (OpSure.take (v := arr a) (by kernel_rfl) (by kernel_rfl) (fun _ h => run_load_blk (by kernel_rfl) (h.get 3 rfl) Tryd.underlying26 rfl info26)) ?_
        refine AllSure.cons (sure_call (v := .bool true) (by kernel_rfl) (by kernel_rfl) enter30 HA.keep #[arr r, arr a] (by kernel_rfl) (fun w' h' => Same_yes r a hrP ha hR w')) ?_
        refine AllSure.cons (OpSure.take (v := .bool false) (by kernel_rfl) (by kernel_rfl) (fun _ _ => (by kernel_rfl))) ?_
        refine AllSure.cons (OpSure.take (v := .bool false) (by kernel_rfl) (by kernel_rfl) (fun _ _ => (by kernel_rfl))) ?_
        refine AllSure.cons (OpSure.skip (by kernel_rfl) (by kernel_rfl)) ?_
        refine AllSure.cons (OpSure.skip (by kernel_rfl) (by kernel_rfl)) ?_
        refine AllSure.cons (OpSure.skip (by kernel_rfl) (by kernel_rfl)) ?_
        refine AllSure.cons (OpSure.skip (by kernel_rfl) (by kernel_rfl)) ?_
        refine AllSure.cons (OpSure.skip (by kernel_rfl) (by kernel_rfl)) ?_
        refine AllSure.cons (OpSure.take (v := .bool false) (by kernel_rfl) (by kernel_rfl) (fun _ _ => (by kernel_rfl))) ?_
        refine AllSure.cons (OpSure.take (v := .bool false) (by kernel_rfl) (by kernel_rfl) (fun _ _ => (by kernel_rfl))) ?_
        exact AllSure.nil
      intro w31 h32
      exact then_I ⟨fun i => ([(32, .bool true), (33, .bool false), (34, .bool false), (35, arr r), (36, .bool false), (37, .bool false), (38, .bool false), (39, arr r), (40, arr a), (41, .bool true), (42, .bool false), (43, .bool false), (44, undef), (45, undef), (46, undef), (47, undef), (48, undef), (49, .bool false)].find? (·.1 == i)).elim undef (·.2), by kernel_rfl, h32⟩
    · -- region 6
      refine wp_region_sure ⟨(.agg c0 :: .agg c1 :: pt q1 :: pt q4 :: .bool false :: pt q13 :: pt q14 :: pt q17 :: pt q26 :: .bool true :: un :: un :: un :: un :: un :: un :: un :: un :: .bool true :: .bool false :: .agg c0 :: arr a :: .agg c1 :: arr b :: arr 0 :: .tuple #[arr r, .bool true] :: arr a :: arr a :: arr (mulP a a) :: .tuple #[arr r, .bool true] :: arr r :: .bool true :: .bool true :: .bool false :: .bool false :: arr r :: .bool false :: .bool false :: .bool false :: arr r :: arr a :: .bool false :: .bool true :: .bool true :: arr r :: arr a :: arr (negP a) :: .bool true :: .bool false :: .bool false :: .bool false :: List.replicate 74 un).toArray, []⟩ (HA w [(q26, 26, el r), (q17, 26, el 0), (q14, 26, el b), (q13, 26, el a), (q4, 40, c1), (q1, 40, c0)]) [.bool true, .bool false, .bool false, arr r, .bool false, .bool false, .bool false, arr r, arr a, .bool false, .bool true, .bool true, arr r, arr a, arr (negP a), .bool true, .bool false, .bool false, .bool false] (by kernel_rfl) (by kernel_rfl) (by kernel_rfl) (by kernel_rfl) (fun _ _ _ h => h) h30.drew ?_ ?_
      · refine AllSure.cons (OpSure.take (v := .bool true) (by kernel_rfl) (by kernel_rfl) (fun _ _ => (by kernel_rfl))) ?_
        refine AllSure.cons (OpSure.take (v := .bool false) (by kernel_rfl) (by kernel_rfl) (fun _ _ => (by kernel_rfl))) ?_
        refine AllSure.cons (OpSure.take (v := .bool false) (by kernel_rfl) (by kernel_rfl) (fun _ _ => (by kernel_rfl))) ?_
        refine AllSure.cons (OpSure.take (v := arr r) (by kernel_rfl) (by kernel_rfl) (fun _ h => run_load_blk (by kernel_rfl) (h.get 0 rfl) Tryd.underlying26 rfl info26)) ?_
        refine AllSure.cons (sure_call (v := .bool false) (by kernel_rfl) (by kernel_rfl) enter15 HA.keep #[arr r] (by kernel_rfl) (fun w' h' => Odd_no r hr2 w')) ?_
        refine AllSure.cons (OpSure.take (v := .bool false) (by kernel_rfl) (by kernel_rfl) (fun _ _ => (by kernel_rfl))) ?_
        refine AllSure.cons (OpSure.take (v := .bool false) (by kernel_rfl) (by kernel_rfl) (fun _ _ => (by kernel_rfl))) ?_
        refine AllSure.cons (OpSure.take (v := arr r) (by kernel_rfl) (by kernel_rfl) (fun _ h => run_load_blk (by kernel_rfl) (h.get 0 rfl) Tryd.underlying26 rfl info26)) ?_
        refine AllSure.cons (OpSure.take (v := arr a) (by kernel_rfl) (by kernel_rfl) (fun _ h => run_load_blk (by kernel_rfl) (h.get 3 rfl) Tryd.underlying26 rfl info26)) ?_
        refine AllSure.cons (sure_call (v := .bool false) (by kernel_rfl) (by kernel_rfl) enter30 HA.keep #[arr r, arr a] (by kernel_rfl) (fun w' h' => Same_no r a hrP ha hR w')) ?_
        refine AllSure.cons (OpSure.take (v := .bool true) (by kernel_rfl) (by kernel_rfl) (fun _ _ => (by kernel_rfl))) ?_
        refine AllSure.cons (OpSure.take (v := .bool true) (by kernel_rfl) (by kernel_rfl) (fun _ _ => (by kernel_rfl))) ?_
        refine AllSure.cons (OpSure.take (v := arr r) (by kernel_rfl) (by kernel_rfl) (fun _ h => run_load_blk (by kernel_rfl) (h.get 0 rfl) Tryd.underlying26 rfl info26)) ?_
        refine AllSure.cons (OpSure.take (v := arr a) (by kernel_rfl) (by kernel_rfl) (fun _ h => run_load_blk (by kernel_rfl) (h.get 3 rfl) Tryd.underlying26 rfl info26)) ?_
        refine AllSure.cons (sure_call (v := arr (negP a)) (by kernel_rfl) (by kernel_rfl) enter28 HA.keep #[arr a] (by kernel_rfl) (fun w' h' => Neg_any a ha w' (VV.out.below h'.old VV.out.big))) ?_
        refine AllSure.cons (sure_call (v := .bool true) (by kernel_rfl) (by kernel_rfl) enter30 HA.keep #[arr r, arr (negP a)] (by kernel_rfl) (fun w' h' => Same_yes r (negP a) hrP (negP_lt _) hR' w')) ?_
        refine AllSure.cons (OpSure.take (v := .bool false) (by kernel_rfl) (by kernel_rfl) (fun _ _ => (by kernel_rfl))) ?_
        refine AllSure.cons (OpSure.take (v := .bool false) (by kernel_rfl) (by kernel_rfl) (fun _ _ => (by kernel_rfl))) ?_
        refine AllSure.cons (OpSure.take (v := .bool false) (by kernel_rfl) (by kernel_rfl) (fun _ _ => (by kernel_rfl))) ?_
        exact AllSure.nil
      intro w33 h34
      exact then_I ⟨fun i => ([(32, .bool true), (33, .bool false), (34, .bool false), (35, arr r), (36, .bool false), (37, .bool false), (38, .bool false), (39, arr r), (40, arr a), (41, .bool false), (42, .bool true), (43, .bool true), (44, arr r), (45, arr a), (46, arr (negP a)), (47, .bool true), (48, .bool false), (49, .bool false)].find? (·.1 == i)).elim undef (·.2), by kernel_rfl, h34⟩
  rintro _ w35 ⟨u, rfl, h36⟩
  refine wp_cond_false (by kernel_rfl) ?_
  refine wp_skip ?_
  refine then_at (F := ⟨(.agg c0 :: .agg c1 :: pt q1 :: pt q4 :: .bool false :: pt q13 :: pt q14 :: pt q17 :: pt q26 :: .bool true :: un :: un :: un :: un :: un :: un :: un :: un :: .bool true :: .bool false :: .agg c0 :: arr a :: .agg c1 :: arr b :: arr 0 :: .tuple #[arr r, .bool true] :: arr a :: arr a :: arr (mulP a a) :: .tuple #[arr r, .bool true] :: arr r :: .bool true :: u 32 :: u 33 :: u 34 :: u 35 :: u 36 :: u 37 :: u 38 :: u 39 :: u 40 :: u 41 :: u 42 :: u 43 :: u 44 :: u 45 :: u 46 :: u 47 :: u 48 :: u 49 :: .bool false :: List.replicate 74 un).toArray, []⟩) (by kernel_rfl) ?_
  refine wp_seq ?_
  -- region 8
  refine wl_region ?_
  refine wl_load h36 3 rfl (by kernel_rfl) (by kernel_rfl) Tryd.underlying26 rfl info26 ?_
  refine wl_call (v := .tuple #[arr 0, .bool false]) h36 (by kernel_rfl) enter31 #[arr a] (by kernel_rfl) (Root_no rfl ha rt1 w35 (VV.out.below h36.old VV.out.big)) ?_
  intro w37 h38
  refine wl_val (.tuple #[arr 0, .bool false]) (by kernel_rfl) (by kernel_rfl) ?_
  refine wl_val (arr 0) (by kernel_rfl) (by kernel_rfl) ?_
  refine wl_val (.bool false) (by kernel_rfl) (by kernel_rfl) ?_
  refine wl_make h38 26 (by kernel_rfl) run_alloc26 ?_
  intro q39 w40 h41
  refine wl_fill (c' := el 0) h41 0 rfl (by kernel_rfl) (by kernel_rfl) (by kernel_rfl) rfl info26 (one_el _) ?_
  intro w42 (h43 : HA w [(q39, 26, el 0), (q26, 26, el r), (q17, 26, el 0), (q14, 26, el b), (q13, 26, el a), (q4, 40, c1), (q1, 40, c0)] w42)
  refine wl_val (.bool false) (by kernel_rfl) (by kernel_rfl) ?_
  refine wl_nil ?_
  refine then_at (F := ⟨(.agg c0 :: .agg c1 :: pt q1 :: pt q4 :: .bool false :: pt q13 :: pt q14 :: pt q17 :: pt q26 :: .bool true :: pt q39 :: .bool false :: un :: un :: un :: un :: un :: un :: .bool true :: .bool false :: .agg c0 :: arr a :: .agg c1 :: arr b :: arr 0 :: .tuple #[arr r, .bool true] :: arr a :: arr a :: arr (mulP a a) :: .tuple #[arr r, .bool true] :: arr r :: .bool true :: u 32 :: u 33 :: u 34 :: u 35 :: u 36 :: u 37 :: u 38 :: u 39 :: u 40 :: u 41 :: u 42 :: u 43 :: u 44 :: u 45 :: u 46 :: u 47 :: u 48 :: u 49 :: .bool false :: .tuple #[arr 0, .bool false] :: arr a :: .tuple #[arr 0, .bool false] :: arr 0 :: .bool false :: List.replicate 69 un).toArray, []⟩) (by kernel_rfl) ?_
  refine wp_seq ?_
  -- region 9
  refine wl_region ?_
  refine wl_load h43 4 rfl (by kernel_rfl) (by kernel_rfl) Tryd.underlying26 rfl info26 ?_
  refine wl_load h43 4 rfl (by kernel_rfl) (by kernel_rfl) Tryd.underlying26 rfl info26 ?_
  refine wl_call (v := arr (addP a a)) h43 (by kernel_rfl) enter22 #[arr a, arr a] (by kernel_rfl) (Add_any a a ha ha w42 (VV.out.below h43.old VV.out.big)) ?_
  intro w44 h45
  refine wl_call (v := .tuple #[arr t, .bool true]) h45 (by kernel_rfl) enter31 #[arr (addP a a)] (by kernel_rfl) (Root_yes rfl (addP_lt _ _) rt2 w44 (VV.out.below h45.old VV.out.big)) ?_
  intro w46 h47
  refine wl_val (.tuple #[arr t, .bool true]) (by kernel_rfl) (by kernel_rfl) ?_
  refine wl_val (arr t) (by kernel_rfl) (by kernel_rfl) ?_
  refine wl_val (.bool true) (by kernel_rfl) (by kernel_rfl) ?_
  refine wl_make h47 26 (by kernel_rfl) run_alloc26 ?_
  intro q48 w49 h50
  refine wl_fill (c' := el t) h50 0 rfl (by kernel_rfl) (by kernel_rfl) (by kernel_rfl) rfl info26 (one_el _) ?_
  intro w51 (h52 : HA w [(q48, 26, el t), (q39, 26, el 0), (q26, 26, el r), (q17, 26, el 0), (q14, 26, el b), (q13, 26, el a), (q4, 40, c1), (q1, 40, c0)] w51)
  refine wl_val (.bool true) (by kernel_rfl) (by kernel_rfl) ?_
  refine wl_nil ?_
  refine then_at (F := ⟨(.agg c0 :: .agg c1 :: pt q1 :: pt q4 :: .bool false :: pt q13 :: pt q14 :: pt q17 :: pt q26 :: .bool true :: pt q39 :: .bool false :: pt q48 :: .bool true :: un :: un :: un :: un :: .bool true :: .bool false :: .agg c0 :: arr a :: .agg c1 :: arr b :: arr 0 :: .tuple #[arr r, .bool true] :: arr a :: arr a :: arr (mulP a a) :: .tuple #[arr r, .bool true] :: arr r :: .bool true :: u 32 :: u 33 :: u 34 :: u 35 :: u 36 :: u 37 :: u 38 :: u 39 :: u 40 :: u 41 :: u 42 :: u 43 :: u 44 :: u 45 :: u 46 :: u 47 :: u 48 :: u 49 :: .bool false :: .tuple #[arr 0, .bool false] :: arr a :: .tuple #[arr 0, .bool false] :: arr 0 :: .bool false :: .tuple #[arr t, .bool true] :: arr a :: arr a :: arr (addP a a) :: .tuple #[arr t, .bool true] :: arr t :: .bool true :: List.replicate 62 un).toArray, []⟩) (by kernel_rfl) ?_
  refine wp_seq ?_
  refine wp_seq ?_
  -- region 10
  refine wp_region_sure ⟨(.agg c0 :: .agg c1 :: pt q1 :: pt q4 :: .bool false :: pt q13 :: pt q14 :: pt q17 :: pt q26 :: .bool true :: pt q39 :: .bool false :: pt q48 :: .bool true :: un :: un :: un :: un :: .bool true :: .bool false :: .agg c0 :: arr a :: .agg c1 :: arr b :: arr 0 :: .tuple #[arr r, .bool true] :: arr a :: arr a :: arr (mulP a a) :: .tuple #[arr r, .bool true] :: arr r :: .bool true :: u 32 :: u 33 :: u 34 :: u 35 :: u 36 :: u 37 :: u 38 :: u 39 :: u 40 :: u 41 :: u 42 :: u 43 :: u 44 :: u 45 :: u 46 :: u 47 :: u 48 :: u 49 :: .bool false :: .tuple #[arr 0, .bool false] :: arr a :: .tuple #[arr 0, .bool false] :: arr 0 :: .bool false :: .tuple #[arr t, .bool true] :: arr a :: arr a :: arr (addP a a) :: .tuple #[arr t, .bool true] :: arr t :: .bool true :: .bool false :: .bool false :: un :: un :: un :: un :: un :: un :: .bool false :: .bool false :: .bool false :: .bool true :: .bool true :: arr 0 :: arr 0 :: .bool true :: .bool false :: .bool false :: .bool false :: List.replicate 43 un).toArray, []⟩ (HA w [(q48, 26, el t), (q39, 26, el 0), (q26, 26, el r), (q17, 26, el 0), (q14, 26, el b), (q13, 26, el a), (q4, 40, c1), (q1, 40, c0)]) [.bool false, .bool false, undef, undef, undef, undef, undef, undef, .bool false, .bool false, .bool false, .bool true, .bool true, arr 0, arr 0, .bool true, .bool false, .bool false, .bool false] (by kernel_rfl) (by kernel_rfl) (by kernel_rfl) (by kernel_rfl) (fun _ _ _ h => h) h52.drew ?_ ?_
  · refine AllSure.cons (OpSure.take (v := .bool false) (by kernel_rfl) (by kernel_rfl) (fun _ _ => (by kernel_rfl))) ?_
    refine AllSure.cons (OpSure.take (v := .bool false) (by kernel_rfl) (by kernel_rfl) (fun _ _ => (by kernel_rfl))) ?_
    refine AllSure.cons (OpSure.skip (by kernel_rfl) (by kernel_rfl)) ?_
    refine AllSure.cons (OpSure.skip (by kernel_rfl) (by kernel_rfl)) ?_
    refine AllSure.cons (OpSure.skip (by kernel_rfl) (by kernel_rfl)) ?_
    refine AllSure.cons (OpSure.skip (by kernel_rfl) (by kernel_rfl)) ?_
    refine AllSure.cons (OpSure.skip (by kernel_rfl) (by kernel_rfl)) ?_
    refine AllSure.cons (OpSure.skip (by kernel_rfl) (by kernel_rfl)) ?_
    refine AllSure.cons (OpSure.take (v := .bool false) (by kernel_rfl) (by kernel_rfl) (fun _ _ => (by kernel_rfl))) ?_
    refine AllSure.cons (OpSure.take (v := .bool false) (by kernel_rfl) (by kernel_rfl) (fun _ _ => (by kernel_rfl))) ?_
    refine AllSure.cons (OpSure.take (v := .bool false) (by kernel_rfl) (by kernel_rfl) (fun _ _ => (by kernel_rfl))) ?_
    refine AllSure.cons (OpSure.take (v := .bool true) (by kernel_rfl) (by kernel_rfl) (fun _ _ => (by kernel_rfl))) ?_
    refine AllSure.cons (OpSure.take (v := .bool true) (by kernel_rfl) (by kernel_rfl) (fun _ _ => (by kernel_rfl))) ?_
    refine AllSure.cons (OpSure.take (v := arr 0) (by kernel_rfl) (by kernel_rfl) (fun _ h => run_load_blk (by kernel_rfl) (h.get 1 rfl) Tryd.underlying26 rfl info26)) ?_
    refine AllSure.cons (OpSure.take (v := arr 0) (by kernel_rfl) (by kernel_rfl) (fun _ h => run_load_blk (by kernel_rfl) (h.get 3 rfl) Tryd.underlying26 rfl info26)) ?_
    refine AllSure.cons (sure_call (v := .bool true) (by kernel_rfl) (by kernel_rfl) enter30 HA.keep #[arr 0, arr 0] (by kernel_rfl) (fun w' h' => Same_yes 0 0 (by decide) (by decide) rfl w')) ?_
    refine AllSure.cons (OpSure.take (v := .bool false) (by kernel_rfl) (by kernel_rfl) (fun _ _ => (by kernel_rfl))) ?_
    refine AllSure.cons (OpSure.take (v := .bool false) (by kernel_rfl) (by kernel_rfl) (fun _ _ => (by kernel_rfl))) ?_
    refine AllSure.cons (OpSure.take (v := .bool false) (by kernel_rfl) (by kernel_rfl) (fun _ _ => (by kernel_rfl))) ?_
    exact AllSure.nil
  intro w53 h54
  refine then_at (F := ⟨(.agg c0 :: .agg c1 :: pt q1 :: pt q4 :: .bool false :: pt q13 :: pt q14 :: pt q17 :: pt q26 :: .bool true :: pt q39 :: .bool false :: pt q48 :: .bool true :: un :: un :: un :: un :: .bool true :: .bool false :: .agg c0 :: arr a :: .agg c1 :: arr b :: arr 0 :: .tuple #[arr r, .bool true] :: arr a :: arr a :: arr (mulP a a) :: .tuple #[arr r, .bool true] :: arr r :: .bool true :: u 32 :: u 33 :: u 34 :: u 35 :: u 36 :: u 37 :: u 38 :: u 39 :: u 40 :: u 41 :: u 42 :: u 43 :: u 44 :: u 45 :: u 46 :: u 47 :: u 48 :: u 49 :: .bool false :: .tuple #[arr 0, .bool false] :: arr a :: .tuple #[arr 0, .bool false] :: arr 0 :: .bool false :: .tuple #[arr t, .bool true] :: arr a :: arr a :: arr (addP a a) :: .tuple #[arr t, .bool true] :: arr t :: .bool true :: .bool false :: .bool false :: un :: un :: un :: un :: un :: un :: .bool false :: .bool false :: .bool false :: .bool true :: .bool true :: arr 0 :: arr 0 :: .bool true :: .bool false :: .bool false :: .bool false :: List.replicate 43 un).toArray, []⟩) (by kernel_rfl) ?_
  refine wp_cond_false (by kernel_rfl) ?_
  refine wp_skip ?_
  refine then_at (F := ⟨(.agg c0 :: .agg c1 :: pt q1 :: pt q4 :: .bool false :: pt q13 :: pt q14 :: pt q17 :: pt q26 :: .bool true :: pt q39 :: .bool false :: pt q48 :: .bool true :: un :: un :: un :: un :: .bool true :: .bool false :: .agg c0 :: arr a :: .agg c1 :: arr b :: arr 0 :: .tuple #[arr r, .bool true] :: arr a :: arr a :: arr (mulP a a) :: .tuple #[arr r, .bool true] :: arr r :: .bool true :: u 32 :: u 33 :: u 34 :: u 35 :: u 36 :: u 37 :: u 38 :: u 39 :: u 40 :: u 41 :: u 42 :: u 43 :: u 44 :: u 45 :: u 46 :: u 47 :: u 48 :: u 49 :: .bool false :: .tuple #[arr 0, .bool false] :: arr a :: .tuple #[arr 0, .bool false] :: arr 0 :: .bool false :: .tuple #[arr t, .bool true] :: arr a :: arr a :: arr (addP a a) :: .tuple #[arr t, .bool true] :: arr t :: .bool true :: .bool false :: .bool false :: un :: un :: un :: un :: un :: un :: .bool false :: .bool false :: .bool false :: .bool true :: .bool true :: arr 0 :: arr 0 :: .bool true :: .bool false :: .bool false :: .bool false :: List.replicate 43 un).toArray, []⟩) (by kernel_rfl) ?_
  refine wp_seq ?_
  refine wp_seq ?_
  -- region 12
  refine wl_region ?_
  refine wl_load h54 5 rfl (by kernel_rfl) (by kernel_rfl) Tryd.underlying26 rfl info26 ?_
  refine wl_load h54 3 rfl (by kernel_rfl) (by kernel_rfl) Tryd.underlying26 rfl info26 ?_
  refine wl_call (v := .bool false) h54 (by kernel_rfl) enter30 #[arr a, arr 0] (by kernel_rfl) (Same_no a 0 ha (by decide) hA w53) ?_
  intro w55 h56
  refine wl_val (.bool false) (by kernel_rfl) (by kernel_rfl) ?_
  refine wl_load h56 4 rfl (by kernel_rfl) (by kernel_rfl) Tryd.underlying26 rfl info26 ?_
  refine wl_load h56 3 rfl (by kernel_rfl) (by kernel_rfl) Tryd.underlying26 rfl info26 ?_
  refine wl_call (v := .bool false) h56 (by kernel_rfl) enter30 #[arr b, arr 0] (by kernel_rfl) (Same_no b 0 hb (by decide) hB w55) ?_
  intro w57 h58
  refine wl_val (.bool false) (by kernel_rfl) (by kernel_rfl) ?_
  refine wl_nil ?_
  refine then_at (F := ⟨(.agg c0 :: .agg c1 :: pt q1 :: pt q4 :: .bool false :: pt q13 :: pt q14 :: pt q17 :: pt q26 :: .bool true :: pt q39 :: .bool false :: pt q48 :: .bool true :: un :: un :: un :: un :: .bool true :: .bool false :: .agg c0 :: arr a :: .agg c1 :: arr b :: arr 0 :: .tuple #[arr r, .bool true] :: arr a :: arr a :: arr (mulP a a) :: .tuple #[arr r, .bool true] :: arr r :: .bool true :: u 32 :: u 33 :: u 34 :: u 35 :: u 36 :: u 37 :: u 38 :: u 39 :: u 40 :: u 41 :: u 42 :: u 43 :: u 44 :: u 45 :: u 46 :: u 47 :: u 48 :: u 49 :: .bool false :: .tuple #[arr 0, .bool false] :: arr a :: .tuple #[arr 0, .bool false] :: arr 0 :: .bool false :: .tuple #[arr t, .bool true] :: arr a :: arr a :: arr (addP a a) :: .tuple #[arr t, .bool true] :: arr t :: .bool true :: .bool false :: .bool false :: un :: un :: un :: un :: un :: un :: .bool false :: .bool false :: .bool false :: .bool true :: .bool true :: arr 0 :: arr 0 :: .bool true :: .bool false :: .bool false :: .bool false :: arr a :: arr 0 :: .bool false :: .bool false :: arr b :: arr 0 :: .bool false :: .bool false :: List.replicate 35 un).toArray, []⟩) (by kernel_rfl) ?_
  refine wp_cond_false (by kernel_rfl) ?_
  refine wp_skip ?_
  refine then_at (F := ⟨(.agg c0 :: .agg c1 :: pt q1 :: pt q4 :: .bool false :: pt q13 :: pt q14 :: pt q17 :: pt q26 :: .bool true :: pt q39 :: .bool false :: pt q48 :: .bool true :: un :: un :: un :: un :: .bool true :: .bool false :: .agg c0 :: arr a :: .agg c1 :: arr b :: arr 0 :: .tuple #[arr r, .bool true] :: arr a :: arr a :: arr (mulP a a) :: .tuple #[arr r, .bool true] :: arr r :: .bool true :: u 32 :: u 33 :: u 34 :: u 35 :: u 36 :: u 37 :: u 38 :: u 39 :: u 40 :: u 41 :: u 42 :: u 43 :: u 44 :: u 45 :: u 46 :: u 47 :: u 48 :: u 49 :: .bool false :: .tuple #[arr 0, .bool false] :: arr a :: .tuple #[arr 0, .bool false] :: arr 0 :: .bool false :: .tuple #[arr t, .bool true] :: arr a :: arr a :: arr (addP a a) :: .tuple #[arr t, .bool true] :: arr t :: .bool true :: .bool false :: .bool false :: un :: un :: un :: un :: un :: un :: .bool false :: .bool false :: .bool false :: .bool true :: .bool true :: arr 0 :: arr 0 :: .bool true :: .bool false :: .bool false :: .bool false :: arr a :: arr 0 :: .bool false :: .bool false :: arr b :: arr 0 :: .bool false :: .bool false :: List.replicate 35 un).toArray, []⟩) (by kernel_rfl) ?_
  refine wp_seq ?_
  -- region 14
  refine wl_region ?_
  refine wl_load h58 4 rfl (by kernel_rfl) (by kernel_rfl) Tryd.underlying26 rfl info26 ?_
  refine wl_call (v := .tuple #[arr o, .bool true]) h58 (by kernel_rfl) enter31 #[arr b] (by kernel_rfl) (Root_yes rfl hb rt3 w57 (VV.out.below h58.old VV.out.big)) ?_
  intro w59 h60
  refine wl_val (.tuple #[arr o, .bool true]) (by kernel_rfl) (by kernel_rfl) ?_
  refine wl_val (arr o) (by kernel_rfl) (by kernel_rfl) ?_
  refine wl_val (.bool true) (by kernel_rfl) (by kernel_rfl) ?_
  refine wl_make h60 26 (by kernel_rfl) run_alloc26 ?_
  intro q61 w62 h63
  refine wl_fill (c' := el o) h63 0 rfl (by kernel_rfl) (by kernel_rfl) (by kernel_rfl) rfl info26 (one_el _) ?_
  intro w64 (h65 : HA w [(q61, 26, el o), (q48, 26, el t), (q39, 26, el 0), (q26, 26, el r), (q17, 26, el 0), (q14, 26, el b), (q13, 26, el a), (q4, 40, c1), (q1, 40, c0)] w64)
  refine wl_val (.bool true) (by kernel_rfl) (by kernel_rfl) ?_
  refine wl_nil ?_
  refine then_at (F := ⟨(.agg c0 :: .agg c1 :: pt q1 :: pt q4 :: .bool false :: pt q13 :: pt q14 :: pt q17 :: pt q26 :: .bool true :: pt q39 :: .bool false :: pt q48 :: .bool true :: pt q61 :: .bool true :: un :: un :: .bool true :: .bool false :: .agg c0 :: arr a :: .agg c1 :: arr b :: arr 0 :: .tuple #[arr r, .bool true] :: arr a :: arr a :: arr (mulP a a) :: .tuple #[arr r, .bool true] :: arr r :: .bool true :: u 32 :: u 33 :: u 34 :: u 35 :: u 36 :: u 37 :: u 38 :: u 39 :: u 40 :: u 41 :: u 42 :: u 43 :: u 44 :: u 45 :: u 46 :: u 47 :: u 48 :: u 49 :: .bool false :: .tuple #[arr 0, .bool false] :: arr a :: .tuple #[arr 0, .bool false] :: arr 0 :: .bool false :: .tuple #[arr t, .bool true] :: arr a :: arr a :: arr (addP a a) :: .tuple #[arr t, .bool true] :: arr t :: .bool true :: .bool false :: .bool false :: un :: un :: un :: un :: un :: un :: .bool false :: .bool false :: .bool false :: .bool true :: .bool true :: arr 0 :: arr 0 :: .bool true :: .bool false :: .bool false :: .bool false :: arr a :: arr 0 :: .bool false :: .bool false :: arr b :: arr 0 :: .bool false :: .bool false :: un :: un :: un :: un :: un :: un :: un :: un :: un :: un :: un :: un :: un :: .tuple #[arr o, .bool true] :: arr b :: .tuple #[arr o, .bool true] :: arr o :: .bool true :: List.replicate 17 un).toArray, []⟩) (by kernel_rfl) ?_
  refine wp_seq ?_
  -- region 15
  refine wl_region ?_
  refine wl_load h65 6 rfl (by kernel_rfl) (by kernel_rfl) Tryd.underlying26 rfl info26 ?_
  refine wl_load h65 5 rfl (by kernel_rfl) (by kernel_rfl) Tryd.underlying26 rfl info26 ?_
  refine wl_call (v := arr (mulP a b)) h65 (by kernel_rfl) enter26 #[arr a, arr b] (by kernel_rfl) (Mul_any a b ha hb w64 (VV.out.below h65.old VV.out.big)) ?_
  intro w66 h67
  refine wl_call (v := .tuple #[arr 0, .bool false]) h67 (by kernel_rfl) enter31 #[arr (mulP a b)] (by kernel_rfl) (Root_no rfl (mulP_lt _ _) rt4 w66 (VV.out.below h67.old VV.out.big)) ?_
  intro w68 h69
  refine wl_val (.tuple #[arr 0, .bool false]) (by kernel_rfl) (by kernel_rfl) ?_
  refine wl_val (arr 0) (by kernel_rfl) (by kernel_rfl) ?_
  refine wl_val (.bool false) (by kernel_rfl) (by kernel_rfl) ?_
  refine wl_make h69 26 (by kernel_rfl) run_alloc26 ?_
  intro q70 w71 h72
  refine wl_fill (c' := el 0) h72 0 rfl (by kernel_rfl) (by kernel_rfl) (by kernel_rfl) rfl info26 (one_el _) ?_
  intro w73 (h74 : HA w [(q70, 26, el 0), (q61, 26, el o), (q48, 26, el t), (q39, 26, el 0), (q26, 26, el r), (q17, 26, el 0), (q14, 26, el b), (q13, 26, el a), (q4, 40, c1), (q1, 40, c0)] w73)
  refine wl_val (.bool false) (by kernel_rfl) (by kernel_rfl) ?_
  refine wl_nil ?_
  refine then_at (F := ⟨(.agg c0 :: .agg c1 :: pt q1 :: pt q4 :: .bool false :: pt q13 :: pt q14 :: pt q17 :: pt q26 :: .bool true :: pt q39 :: .bool false :: pt q48 :: .bool true :: pt q61 :: .bool true :: pt q70 :: .bool false :: .bool true :: .bool false :: .agg c0 :: arr a :: .agg c1 :: arr b :: arr 0 :: .tuple #[arr r, .bool true] :: arr a :: arr a :: arr (mulP a a) :: .tuple #[arr r, .bool true] :: arr r :: .bool true :: u 32 :: u 33 :: u 34 :: u 35 :: u 36 :: u 37 :: u 38 :: u 39 :: u 40 :: u 41 :: u 42 :: u 43 :: u 44 :: u 45 :: u 46 :: u 47 :: u 48 :: u 49 :: .bool false :: .tuple #[arr 0, .bool false] :: arr a :: .tuple #[arr 0, .bool false] :: arr 0 :: .bool false :: .tuple #[arr t, .bool true] :: arr a :: arr a :: arr (addP a a) :: .tuple #[arr t, .bool true] :: arr t :: .bool true :: .bool false :: .bool false :: un :: un :: un :: un :: un :: un :: .bool false :: .bool false :: .bool false :: .bool true :: .bool true :: arr 0 :: arr 0 :: .bool true :: .bool false :: .bool false :: .bool false :: arr a :: arr 0 :: .bool false :: .bool false :: arr b :: arr 0 :: .bool false :: .bool false :: un :: un :: un :: un :: un :: un :: un :: un :: un :: un :: un :: un :: un :: .tuple #[arr o, .bool true] :: arr b :: .tuple #[arr o, .bool true] :: arr o :: .bool true :: .tuple #[arr 0, .bool false] :: arr a :: arr b :: arr (mulP a b) :: .tuple #[arr 0, .bool false] :: arr 0 :: .bool false :: List.replicate 10 un).toArray, []⟩) (by kernel_rfl) ?_
  refine wp_seq ?_
  -- region 16
  refine wl_region ?_
  refine wl_val (.bool false) (by kernel_rfl) (by kernel_rfl) ?_
  refine wl_val (.bool true) (by kernel_rfl) (by kernel_rfl) ?_
  refine wl_val (.bool true) (by kernel_rfl) (run_neb false true (by kernel_rfl) (by kernel_rfl)) ?_
  refine wl_val (.bool true) (by kernel_rfl) (by kernel_rfl) ?_
  refine wl_val (.bool false) (by kernel_rfl) (by kernel_rfl) ?_
  refine wl_val (.bool false) (by kernel_rfl) (by kernel_rfl) ?_
  refine wl_val (.bool true) (by kernel_rfl) (by kernel_rfl) ?_
  refine wl_val (.bool false) (by kernel_rfl) (run_eqb false true (by kernel_rfl) (by kernel_rfl)) ?_
  refine wl_val (.bool true) (by kernel_rfl) (run_eqb false false (by kernel_rfl) (by kernel_rfl)) ?_
  refine wl_val (.bool true) (by kernel_rfl) (by kernel_rfl) ?_
  refine wl_val (.bool true) (by kernel_rfl) (by kernel_rfl) ?_
  refine wl_nil ?_
  refine then_at (F := ⟨(.agg c0 :: .agg c1 :: pt q1 :: pt q4 :: .bool true :: pt q13 :: pt q14 :: pt q17 :: pt q26 :: .bool true :: pt q39 :: .bool false :: pt q48 :: .bool true :: pt q61 :: .bool true :: pt q70 :: .bool false :: .bool true :: .bool false :: .agg c0 :: arr a :: .agg c1 :: arr b :: arr 0 :: .tuple #[arr r, .bool true] :: arr a :: arr a :: arr (mulP a a) :: .tuple #[arr r, .bool true] :: arr r :: .bool true :: u 32 :: u 33 :: u 34 :: u 35 :: u 36 :: u 37 :: u 38 :: u 39 :: u 40 :: u 41 :: u 42 :: u 43 :: u 44 :: u 45 :: u 46 :: u 47 :: u 48 :: u 49 :: .bool false :: .tuple #[arr 0, .bool false] :: arr a :: .tuple #[arr 0, .bool false] :: arr 0 :: .bool false :: .tuple #[arr t, .bool true] :: arr a :: arr a :: arr (addP a a) :: .tuple #[arr t, .bool true] :: arr t :: .bool true :: .bool false :: .bool false :: un :: un :: un :: un :: un :: un :: .bool false :: .bool false :: .bool false :: .bool true :: .bool true :: arr 0 :: arr 0 :: .bool true :: .bool false :: .bool false :: .bool false :: arr a :: arr 0 :: .bool false :: .bool false :: arr b :: arr 0 :: .bool false :: .bool false :: un :: un :: un :: un :: un :: un :: un :: un :: un :: un :: un :: un :: un :: .tuple #[arr o, .bool true] :: arr b :: .tuple #[arr o, .bool true] :: arr o :: .bool true :: .tuple #[arr 0, .bool false] :: arr a :: arr b :: arr (mulP a b) :: .tuple #[arr 0, .bool false] :: arr 0 :: .bool false :: .bool false :: .bool true :: .bool true :: .bool true :: .bool false :: .bool false :: .bool true :: .bool false :: .bool true :: .bool true :: List.replicate 0 un).toArray, []⟩) (by kernel_rfl) ?_
  refine wp_ret ?_
  repeat first | refine then_ret ?_ | refine block_ret ?_
  exact bodyPost_ret (v := .bool true) (by kernel_rfl) rfl ⟨rfl, h74.old⟩
set_option linter.unusedVariables false in
set_option maxRecDepth 100000 in
set_option maxHeartbeats 4000000 in
theorem sq_c4 (c0 c1 : Array Value) (a b r : Nat) (hz0 : c0.size = 32) (hz1 : c1.size = 32) (ha : a < P) (hb : b < P) (hr : rootP (mulP a a) = some r) (hr2 : r % 2 = 0) (hrP : r < P) (hR : r = a ∨ r ≠ a ∧ r = negP a) (hA : a ≠ 0) (hB : b ≠ 0) (rt1 : rootP a = none) (t : Nat) (rt2 : rootP (addP a a) = some t) (htP : t < P) (rt3 : rootP b = none) (p : Nat) (rt4 : rootP (mulP a b) = some p) (hpP : p < P)
    (KA : ∀ w, Vars w → Calls Tryd.prog 20 #[.agg c0] w fun e w' => e = .returned (arr a) ∧ Below w.heap.size w w')
    (KB : ∀ w, Vars w → Calls Tryd.prog 20 #[.agg c1] w fun e w' => e = .returned (arr b) ∧ Below w.heap.size w w') (w : World) (V : Vars w) :
    Calls Tryd.prog 8 #[.agg c0, .agg c1] w fun e w' => e = .returned (.bool true) ∧ Below w.heap.size w w' := by
  have VV := hide V
  have H0 := HA.start w
  clear V
  go_enter Tryd.func8, Tryd.ntmps8
  refine wp_seq ?_
  -- region 0
  refine wl_region ?_
  refine wl_make H0 40 (by kernel_rfl) (run_box40 (c := c0) (by kernel_rfl)) ?_
  intro q1 w2 h3
  refine wl_make h3 40 (by kernel_rfl) (run_box40 (c := c1) (by kernel_rfl)) ?_
  intro q4 w5 h6
  refine wl_val (.bool false) (by kernel_rfl) (by kernel_rfl) ?_
  refine wl_nil ?_
  refine then_at (F := ⟨(.agg c0 :: .agg c1 :: pt q1 :: pt q4 :: .bool false :: List.replicate 120 un).toArray, []⟩) (by kernel_rfl) ?_
  refine wp_seq ?_
  refine wp_seq ?_
  -- region 1
  refine wl_region ?_
  refine wl_call (v := .bool true) h6 (by kernel_rfl) enter19 #[] (by kernel_rfl) (works_any w5 (VV.out.below h6.old VV.out.big)) ?_
  intro w7 h8
  refine wl_val (.bool false) (by kernel_rfl) (by kernel_rfl) ?_
  refine wl_nil ?_
  refine then_at (F := ⟨(.agg c0 :: .agg c1 :: pt q1 :: pt q4 :: .bool false :: un :: un :: un :: un :: un :: un :: un :: un :: un :: un :: un :: un :: un :: .bool true :: .bool false :: List.replicate 105 un).toArray, []⟩) (by kernel_rfl) ?_
  refine wp_cond_false (by kernel_rfl) ?_
  refine wp_skip ?_
  refine then_at (F := ⟨(.agg c0 :: .agg c1 :: pt q1 :: pt q4 :: .bool false :: un :: un :: un :: un :: un :: un :: un :: un :: un :: un :: un :: un :: un :: .bool true :: .bool false :: List.replicate 105 un).toArray, []⟩) (by kernel_rfl) ?_
  refine wp_seq ?_
  -- region 3
  obtain ⟨B9, eB9⟩ : ∃ B, B = w7.heap.size := ⟨_, rfl⟩
  refine wp_region_ghost (fun g : Nat → Nat => (⟨(.agg c0 :: .agg c1 :: pt q1 :: pt q4 :: .bool false :: pt (g 4) :: pt (g 5) :: un :: un :: un :: un :: un :: un :: un :: un :: un :: un :: un :: .bool true :: .bool false :: .agg c0 :: arr a :: .agg c1 :: arr b :: List.replicate 101 un).toArray, []⟩ : Act)) (GS w [(q4, 40, c1), (q1, 40, c0)] B9 2 4 6 26 (el 0) (fun j => el ([a, b].getD j a))) [.agg c0, arr a, .agg c1, arr b, .pointer (some ⟨0, 0, none⟩), .pointer (some ⟨0, 0, none⟩), undef, undef] (by kernel_rfl) (by kernel_rfl) (by kernel_rfl) (by kernel_rfl) (fun _ _ _ _ h => h) (fun d hd => GS.start h8.drew eB9 (by decide) (fun _ _ => rfl) (fun j hj => hd j (Nat.lt_of_lt_of_le hj (by decide)))) ?_ ?_
  · refine AllGhost.cons (ghost_load 1 rfl (by decide) (fun _ => by kernel_rfl) (fun _ => by kernel_rfl) (fun _ => by kernel_rfl) Tryd.underlying40 rfl (by first | (show _ = some c0.size; rw [hz0]; exact info40) | (show _ = some c1.size; rw [hz1]; exact info40))) ?_
    refine AllGhost.cons (ghost_call (v := arr a) (by decide) (fun _ => by kernel_rfl) (fun _ => by kernel_rfl) enter20 #[.agg c0] (fun _ => by kernel_rfl) (fun w' h' => KA w' (VV.out.below h'.old VV.out.big))) ?_
    refine AllGhost.cons (ghost_load 0 rfl (by decide) (fun _ => by kernel_rfl) (fun _ => by kernel_rfl) (fun _ => by kernel_rfl) Tryd.underlying40 rfl (by first | (show _ = some c0.size; rw [hz0]; exact info40) | (show _ = some c1.size; rw [hz1]; exact info40))) ?_
    refine AllGhost.cons (ghost_call (v := arr b) (by decide) (fun _ => by kernel_rfl) (fun _ => by kernel_rfl) enter20 #[.agg c1] (fun _ => by kernel_rfl) (fun w' h' => KB w' (VV.out.below h'.old VV.out.big))) ?_
    refine AllGhost.cons (ghost_make 0 (by decide) rfl (fun _ => by kernel_rfl) (fun _ _ => by kernel_rfl) (fun _ _ => run_alloc26)) ?_
    refine AllGhost.cons (ghost_make 1 (by decide) rfl (fun _ => by kernel_rfl) (fun _ _ => by kernel_rfl) (fun _ _ => run_alloc26)) ?_
    refine AllGhost.cons (ghost_fill 0 (by decide) rfl (fun _ => by kernel_rfl) (fun _ => by kernel_rfl) (fun _ => by kernel_rfl) (fun _ => by kernel_rfl) info26 (one_el _) (by kernel_rfl)) ?_
    refine AllGhost.cons (ghost_fill 1 (by decide) rfl (fun _ => by kernel_rfl) (fun _ => by kernel_rfl) (fun _ => by kernel_rfl) (fun _ => by kernel_rfl) info26 (one_el _) (by kernel_rfl)) ?_
    exact AllGhost.nil
  intro g w10 g11
  have h12 : HA w [(g 5, 26, el b), (g 4, 26, el a), (q4, 40, c1), (q1, 40, c0)] w10 := g11.two
  clear g11 eB9
  generalize g 4 = q13 at h12 ⊢
  generalize g 5 = q14 at h12 ⊢
  clear g
  refine then_at (F := ⟨(.agg c0 :: .agg c1 :: pt q1 :: pt q4 :: .bool false :: pt q13 :: pt q14 :: un :: un :: un :: un :: un :: un :: un :: un :: un :: un :: un :: .bool true :: .bool false :: .agg c0 :: arr a :: .agg c1 :: arr b :: List.replicate 101 un).toArray, []⟩) (by kernel_rfl) ?_
  refine wp_seq ?_
  -- region 4
  refine wl_region ?_
  refine wl_call (v := arr 0) h12 (by kernel_rfl) enter17 #[iN .u32 0] (by kernel_rfl) (Small_any 0 (by decide) w10) ?_
  intro w15 h16
  refine wl_make h16 26 (by kernel_rfl) run_alloc26 ?_
  intro q17 w18 h19
  refine wl_fill (c' := el 0) h19 0 rfl (by kernel_rfl) (by kernel_rfl) (by kernel_rfl) rfl info26 (one_el _) ?_
  intro w20 (h21 : HA w [(q17, 26, el 0), (q14, 26, el b), (q13, 26, el a), (q4, 40, c1), (q1, 40, c0)] w20)
  refine wl_nil ?_
  refine then_at (F := ⟨(.agg c0 :: .agg c1 :: pt q1 :: pt q4 :: .bool false :: pt q13 :: pt q14 :: pt q17 :: un :: un :: un :: un :: un :: un :: un :: un :: un :: un :: .bool true :: .bool false :: .agg c0 :: arr a :: .agg c1 :: arr b :: arr 0 :: List.replicate 100 un).toArray, []⟩) (by kernel_rfl) ?_
  refine wp_seq ?_
  -- region 5
  refine wl_region ?_
  refine wl_load h21 2 rfl (by kernel_rfl) (by kernel_rfl) Tryd.underlying26 rfl info26 ?_
  refine wl_load h21 2 rfl (by kernel_rfl) (by kernel_rfl) Tryd.underlying26 rfl info26 ?_
  refine wl_call (v := arr (mulP a a)) h21 (by kernel_rfl) enter26 #[arr a, arr a] (by kernel_rfl) (Mul_any a a ha ha w20 (VV.out.below h21.old VV.out.big)) ?_
  intro w22 h23
  refine wl_call (v := .tuple #[arr r, .bool true]) h23 (by kernel_rfl) enter31 #[arr (mulP a a)] (by kernel_rfl) (Root_yes rfl (mulP_lt _ _) hr w22 (VV.out.below h23.old VV.out.big)) ?_
  intro w24 h25
  refine wl_val (.tuple #[arr r, .bool true]) (by kernel_rfl) (by kernel_rfl) ?_
  refine wl_val (arr r) (by kernel_rfl) (by kernel_rfl) ?_
  refine wl_val (.bool true) (by kernel_rfl) (by kernel_rfl) ?_
  refine wl_make h25 26 (by kernel_rfl) run_alloc26 ?_
  intro q26 w27 h28
  refine wl_fill (c' := el r) h28 0 rfl (by kernel_rfl) (by kernel_rfl) (by kernel_rfl) rfl info26 (one_el _) ?_
  intro w29 (h30 : HA w [(q26, 26, el r), (q17, 26, el 0), (q14, 26, el b), (q13, 26, el a), (q4, 40, c1), (q1, 40, c0)] w29)
  refine wl_val (.bool true) (by kernel_rfl) (by kernel_rfl) ?_
  refine wl_nil ?_
  refine then_at (F := ⟨(.agg c0 :: .agg c1 :: pt q1 :: pt q4 :: .bool false :: pt q13 :: pt q14 :: pt q17 :: pt q26 :: .bool true :: un :: un :: un :: un :: un :: un :: un :: un :: .bool true :: .bool false :: .agg c0 :: arr a :: .agg c1 :: arr b :: arr 0 :: .tuple #[arr r, .bool true] :: arr a :: arr a :: arr (mulP a a) :: .tuple #[arr r, .bool true] :: arr r :: .bool true :: List.replicate 93 un).toArray, []⟩) (by kernel_rfl) ?_
  refine wp_seq ?_
  refine wp_seq ?_
  -- region 6, two ways
  refine wp_meet (fun A w' => ∃ u : Nat → Value, A = ⟨(.agg c0 :: .agg c1 :: pt q1 :: pt q4 :: .bool false :: pt q13 :: pt q14 :: pt q17 :: pt q26 :: .bool true :: un :: un :: un :: un :: un :: un :: un :: un :: .bool true :: .bool false :: .agg c0 :: arr a :: .agg c1 :: arr b :: arr 0 :: .tuple #[arr r, .bool true] :: arr a :: arr a :: arr (mulP a a) :: .tuple #[arr r, .bool true] :: arr r :: .bool true :: u 32 :: u 33 :: u 34 :: u 35 :: u 36 :: u 37 :: u 38 :: u 39 :: u 40 :: u 41 :: u 42 :: u 43 :: u 44 :: u 45 :: u 46 :: u 47 :: u 48 :: u 49 :: .bool false :: List.replicate 74 un).toArray, []⟩ ∧ HA w [(q26, 26, el r), (q17, 26, el 0), (q14, 26, el b), (q13, 26, el a), (q4, 40, c1), (q1, 40, c0)] w') ?_ ?_
  · rcases hR with hR | ⟨hR, hR'⟩
    · -- region 6
      refine wp_region_sure ⟨(.agg c0 :: .agg c1 :: pt q1 :: pt q4 :: .bool false :: pt q13 :: pt q14 :: pt q17 :: pt q26 :: .bool true :: un :: un :: un :: un :: un :: un :: un :: un :: .bool true :: .bool false :: .agg c0 :: arr a :: .agg c1 :: arr b :: arr 0 :: .tuple #[arr r, .bool true] :: arr a :: arr a :: arr (mulP a a) :: .tuple #[arr r, .bool true] :: arr r :: .bool true :: .bool true :: .bool false :: .bool false :: arr r :: .bool false :: .bool false :: .bool false :: arr r :: arr a :: .bool true :: .bool false :: .bool false :: un :: un :: un :: un :: un :: .bool false :: .bool false :: List.replicate 74 un).toArray, []⟩ (HA w [(q26, 26, el r), (q17, 26, el 0), (q14, 26, el b), (q13, 26, el a), (q4, 40, c1), (q1, 40, c0)]) [.bool true, .bool false, .bool false, arr r, .bool false, .bool false, .bool false, arr r, arr a, .bool true, .bool false, .bool false, undef, undef, undef, undef, undef, .bool false, .bool false] (by kernel_rfl) (by kernel_rfl) (by kernel_rfl) (by kernel_rfl) (fun _ _ _ h => h) h30.drew ?_ ?_
      · refine AllSure.cons (OpSure.take (v := .bool true) (by kernel_rfl) (by kernel_rfl) (fun _ _ => (by kernel_rfl))) ?_
        refine AllSure.cons (OpSure.take (v := .bool false) (by kernel_rfl) (by kernel_rfl) (fun _ _ => (by kernel_rfl))) ?_
        refine AllSure.cons (OpSure.take (v := .bool false) (by kernel_rfl) (by kernel_rfl) (fun _ _ => (by kernel_rfl))) ?_
        refine AllSure.cons (OpSure.take (v := arr r) (by kernel_rfl) (by kernel_rfl) (fun _ h => run_load_blk (by kernel_rfl) (h.get 0 rfl) Tryd.underlying26 rfl info26)) ?_
        refine AllSure.cons (sure_call (v := .bool false) (by kernel_rfl) (by kernel_rfl) enter15 HA.keep #[arr r] (by kernel_rfl) (fun w' h' => Odd_no r hr2 w')) ?_
        refine AllSure.cons (OpSure.take (v := .bool false) (by kernel_rfl) (by kernel_rfl) (fun _ _ => (by kernel_rfl))) ?_
        refine AllSure.cons (OpSure.take (v := .bool false) (by kernel_rfl) (by kernel_rfl) (fun _ _ => (by kernel_rfl))) ?_
        refine AllSure.cons (OpSure.take (v := arr r) (by kernel_rfl) (by kernel_rfl) (fun _ h => run_load_blk (by kernel_rfl) (h.get 0 rfl) Tryd.underlying26 rfl info26)) ?_
        refine AllSure.cons (OpSure.take (v := arr a) (by kernel_rfl) (by kernel_rfl) (fun _ h => run_load_blk (by kernel_rfl) (h.get 3 rfl) Tryd.underlying26 rfl info26)) ?_
        refine AllSure.cons (sure_call (v := .bool true) (by kernel_rfl) (by kernel_rfl) enter30 HA.keep #[arr r, arr a] (by kernel_rfl) (fun w' h' => Same_yes r a hrP ha hR w')) ?_
        refine AllSure.cons (OpSure.take (v := .bool false) (by kernel_rfl) (by kernel_rfl) (fun _ _ => (by kernel_rfl))) ?_
        refine AllSure.cons (OpSure.take (v := .bool false) (by kernel_rfl) (by kernel_rfl) (fun _ _ => (by kernel_rfl))) ?_
        refine AllSure.cons (OpSure.skip (by kernel_rfl) (by kernel_rfl)) ?_
        refine AllSure.cons (OpSure.skip (by kernel_rfl) (by kernel_rfl)) ?_
        refine AllSure.cons (OpSure.skip (by kernel_rfl) (by kernel_rfl)) ?_
        refine AllSure.cons (OpSure.skip (by kernel_rfl) (by kernel_rfl)) ?_
        refine AllSure.cons (OpSure.skip (by kernel_rfl) (by kernel_rfl)) ?_
        refine AllSure.cons (OpSure.take (v := .bool false) (by kernel_rfl) (by kernel_rfl) (fun _ _ => (by kernel_rfl))) ?_
        refine AllSure.cons (OpSure.take (v := .bool false) (by kernel_rfl) (by kernel_rfl) (fun _ _ => (by kernel_rfl))) ?_
        exact AllSure.nil
      intro w31 h32
      exact then_I ⟨fun i => ([(32, .bool true), (33, .bool false), (34, .bool false), (35, arr r), (36, .bool false), (37, .bool false), (38, .bool false), (39, arr r), (40, arr a), (41, .bool true), (42, .bool false), (43, .bool false), (44, undef), (45, undef), (46, undef), (47, undef), (48, undef), (49, .bool false)].find? (·.1 == i)).elim undef (·.2), by kernel_rfl, h32⟩
    · -- region 6
      refine wp_region_sure ⟨(.agg c0 :: .agg c1 :: pt q1 :: pt q4 :: .bool false :: pt q13 :: pt q14 :: pt q17 :: pt q26 :: .bool true :: un :: un :: un :: un :: un :: un :: un :: un :: .bool true :: .bool false :: .agg c0 :: arr a :: .agg c1 :: arr b :: arr 0 :: .tuple #[arr r, .bool true] :: arr a :: arr a :: arr (mulP a a) :: .tuple #[arr r, .bool true] :: arr r :: .bool true :: .bool true :: .bool false :: .bool false :: arr r :: .bool false :: .bool false :: .bool false :: arr r :: arr a :: .bool false :: .bool true :: .bool true :: arr r :: arr a :: arr (negP a) :: .bool true :: .bool false :: .bool false :: .bool false :: List.replicate 74 un).toArray, []⟩ (HA w [(q26, 26, el r), (q17, 26, el 0), (q14, 26, el b), (q13, 26, el a), (q4, 40, c1), (q1, 40, c0)]) [.bool true, .bool false, .bool false, arr r, .bool false, .bool false, .bool false, arr r, arr a, .bool false, .bool true, .bool true, arr r, arr a, arr (negP a), .bool true, .bool false, .bool false, .bool false] (by kernel_rfl) (by kernel_rfl) (by kernel_rfl) (by kernel_rfl) (fun _ _ _ h => h) h30.drew ?_ ?_
      · refine AllSure.cons (OpSure.take (v := .bool true) (by kernel_rfl) (by kernel_rfl) (fun _ _ => (by kernel_rfl))) ?_
        refine AllSure.cons (OpSure.take (v := .bool false) (by kernel_rfl) (by kernel_rfl) (fun _ _ => (by kernel_rfl))) ?_
        refine AllSure.cons (OpSure.take (v := .bool false) (by kernel_rfl) (by kernel_rfl) (fun _ _ => (by kernel_rfl))) ?_
        refine AllSure.cons (OpSure.take (v := arr r) (by kernel_rfl) (by kernel_rfl) (fun _ h => run_load_blk (by kernel_rfl) (h.get 0 rfl) Tryd.underlying26 rfl info26)) ?_
        refine AllSure.cons (sure_call (v := .bool false) (by kernel_rfl) (by kernel_rfl) enter15 HA.keep #[arr r] (by kernel_rfl) (fun w' h' => Odd_no r hr2 w')) ?_
        refine AllSure.cons (OpSure.take (v := .bool false) (by kernel_rfl) (by kernel_rfl) (fun _ _ => (by kernel_rfl))) ?_
        refine AllSure.cons (OpSure.take (v := .bool false) (by kernel_rfl) (by kernel_rfl) (fun _ _ => (by kernel_rfl))) ?_
        refine AllSure.cons (OpSure.take (v := arr r) (by kernel_rfl) (by kernel_rfl) (fun _ h => run_load_blk (by kernel_rfl) (h.get 0 rfl) Tryd.underlying26 rfl info26)) ?_
        refine AllSure.cons (OpSure.take (v := arr a) (by kernel_rfl) (by kernel_rfl) (fun _ h => run_load_blk (by kernel_rfl) (h.get 3 rfl) Tryd.underlying26 rfl info26)) ?_
        refine AllSure.cons (sure_call (v := .bool false) (by kernel_rfl) (by kernel_rfl) enter30 HA.keep #[arr r, arr a] (by kernel_rfl) (fun w' h' => Same_no r a hrP ha hR w')) ?_
        refine AllSure.cons (OpSure.take (v := .bool true) (by kernel_rfl) (by kernel_rfl) (fun _ _ => (by kernel_rfl))) ?_
        refine AllSure.cons (OpSure.take (v := .bool true) (by kernel_rfl) (by kernel_rfl) (fun _ _ => (by kernel_rfl))) ?_
        refine AllSure.cons (OpSure.take (v := arr r) (by kernel_rfl) (by kernel_rfl) (fun _ h => run_load_blk (by kernel_rfl) (h.get 0 rfl) Tryd.underlying26 rfl info26)) ?_
        refine AllSure.cons (OpSure.take (v := arr a) (by kernel_rfl) (by kernel_rfl) (fun _ h => run_load_blk (by kernel_rfl) (h.get 3 rfl) Tryd.underlying26 rfl info26)) ?_
        refine AllSure.cons (sure_call (v := arr (negP a)) (by kernel_rfl) (by kernel_rfl) enter28 HA.keep #[arr a] (by kernel_rfl) (fun w' h' => Neg_any a ha w' (VV.out.below h'.old VV.out.big))) ?_
        refine AllSure.cons (sure_call (v := .bool true) (by kernel_rfl) (by kernel_rfl) enter30 HA.keep #[arr r, arr (negP a)] (by kernel_rfl) (fun w' h' => Same_yes r (negP a) hrP (negP_lt _) hR' w')) ?_
        refine AllSure.cons (OpSure.take (v := .bool false) (by kernel_rfl) (by kernel_rfl) (fun _ _ => (by kernel_rfl))) ?_
        refine AllSure.cons (OpSure.take (v := .bool false) (by kernel_rfl) (by kernel_rfl) (fun _ _ => (by kernel_rfl))) ?_
        refine AllSure.cons (OpSure.take (v := .bool false) (by kernel_rfl) (by kernel_rfl) (fun _ _ => (by kernel_rfl))) ?_
        exact AllSure.nil
      intro w33 h34
      exact then_I ⟨fun i => ([(32, .bool true), (33, .bool false), (34, .bool false), (35, arr r), (36, .bool false), (37, .bool false), (38, .bool false), (39, arr r), (40, arr a), (41, .bool false), (42, .bool true), (43, .bool true), (44, arr r), (45, arr a), (46, arr (negP a)), (47, .bool true), (48, .bool false), (49, .bool false)].find? (·.1 == i)).elim undef (·.2), by kernel_rfl, h34⟩
  rintro _ w35 ⟨u, rfl, h36⟩
  refine wp_cond_false (by kernel_rfl) ?_
  refine wp_skip ?_
  refine then_at (F := ⟨(.agg c0 :: .agg c1 :: pt q1 :: pt q4 :: .bool false :: pt q13 :: pt q14 :: pt q17 :: pt q26 :: .bool true :: un :: un :: un :: un :: un :: un :: un :: un :: .bool true :: .bool false :: .agg c0 :: arr a :: .agg c1 :: arr b :: arr 0 :: .tuple #[arr r, .bool true] :: arr a :: arr a :: arr (mulP a a) :: .tuple #[arr r, .bool true] :: arr r :: .bool true :: u 32 :: u 33 :: u 34 :: u 35 :: u 36 :: u 37 :: u 38 :: u 39 :: u 40 :: u 41 :: u 42 :: u 43 :: u 44 :: u 45 :: u 46 :: u 47 :: u 48 :: u 49 :: .bool false :: List.replicate 74 un).toArray, []⟩) (by kernel_rfl) ?_
  refine wp_seq ?_
  -- region 8
  refine wl_region ?_
  refine wl_load h36 3 rfl (by kernel_rfl) (by kernel_rfl) Tryd.underlying26 rfl info26 ?_
  refine wl_call (v := .tuple #[arr 0, .bool false]) h36 (by kernel_rfl) enter31 #[arr a] (by kernel_rfl) (Root_no rfl ha rt1 w35 (VV.out.below h36.old VV.out.big)) ?_
  intro w37 h38
  refine wl_val (.tuple #[arr 0, .bool false]) (by kernel_rfl) (by kernel_rfl) ?_
  refine wl_val (arr 0) (by kernel_rfl) (by kernel_rfl) ?_
  refine wl_val (.bool false) (by kernel_rfl) (by kernel_rfl) ?_
  refine wl_make h38 26 (by kernel_rfl) run_alloc26 ?_
  intro q39 w40 h41
  refine wl_fill (c' := el 0) h41 0 rfl (by kernel_rfl) (by kernel_rfl) (by kernel_rfl) rfl info26 (one_el _) ?_
  intro w42 (h43 : HA w [(q39, 26, el 0), (q26, 26, el r), (q17, 26, el 0), (q14, 26, el b), (q13, 26, el a), (q4, 40, c1), (q1, 40, c0)] w42)
  refine wl_val (.bool false) (by kernel_rfl) (by kernel_rfl) ?_
  refine wl_nil ?_
  refine then_at (F := ⟨(.agg c0 :: .agg c1 :: pt q1 :: pt q4 :: .bool false :: pt q13 :: pt q14 :: pt q17 :: pt q26 :: .bool true :: pt q39 :: .bool false :: un :: un :: un :: un :: un :: un :: .bool true :: .bool false :: .agg c0 :: arr a :: .agg c1 :: arr b :: arr 0 :: .tuple #[arr r, .bool true] :: arr a :: arr a :: arr (mulP a a) :: .tuple #[arr r, .bool true] :: arr r :: .bool true :: u 32 :: u 33 :: u 34 :: u 35 :: u 36 :: u 37 :: u 38 :: u 39 :: u 40 :: u 41 :: u 42 :: u 43 :: u 44 :: u 45 :: u 46 :: u 47 :: u 48 :: u 49 :: .bool false :: .tuple #[arr 0, .bool false] :: arr a :: .tuple #[arr 0, .bool false] :: arr 0 :: .bool false :: List.replicate 69 un).toArray, []⟩) (by kernel_rfl) ?_
  refine wp_seq ?_
  -- region 9
  refine wl_region ?_
  refine wl_load h43 4 rfl (by kernel_rfl) (by kernel_rfl) Tryd.underlying26 rfl info26 ?_
  refine wl_load h43 4 rfl (by kernel_rfl) (by kernel_rfl) Tryd.underlying26 rfl info26 ?_
  refine wl_call (v := arr (addP a a)) h43 (by kernel_rfl) enter22 #[arr a, arr a] (by kernel_rfl) (Add_any a a ha ha w42 (VV.out.below h43.old VV.out.big)) ?_
  intro w44 h45
  refine wl_call (v := .tuple #[arr t, .bool true]) h45 (by kernel_rfl) enter31 #[arr (addP a a)] (by kernel_rfl) (Root_yes rfl (addP_lt _ _) rt2 w44 (VV.out.below h45.old VV.out.big)) ?_
  intro w46 h47
  refine wl_val (.tuple #[arr t, .bool true]) (by kernel_rfl) (by kernel_rfl) ?_
  refine wl_val (arr t) (by kernel_rfl) (by kernel_rfl) ?_
  refine wl_val (.bool true) (by kernel_rfl) (by kernel_rfl) ?_
  refine wl_make h47 26 (by kernel_rfl) run_alloc26 ?_
  intro q48 w49 h50
  refine wl_fill (c' := el t) h50 0 rfl (by kernel_rfl) (by kernel_rfl) (by kernel_rfl) rfl info26 (one_el _) ?_
  intro w51 (h52 : HA w [(q48, 26, el t), (q39, 26, el 0), (q26, 26, el r), (q17, 26, el 0), (q14, 26, el b), (q13, 26, el a), (q4, 40, c1), (q1, 40, c0)] w51)
  refine wl_val (.bool true) (by kernel_rfl) (by kernel_rfl) ?_
  refine wl_nil ?_
  refine then_at (F := ⟨(.agg c0 :: .agg c1 :: pt q1 :: pt q4 :: .bool false :: pt q13 :: pt q14 :: pt q17 :: pt q26 :: .bool true :: pt q39 :: .bool false :: pt q48 :: .bool true :: un :: un :: un :: un :: .bool true :: .bool false :: .agg c0 :: arr a :: .agg c1 :: arr b :: arr 0 :: .tuple #[arr r, .bool true] :: arr a :: arr a :: arr (mulP a a) :: .tuple #[arr r, .bool true] :: arr r :: .bool true :: u 32 :: u 33 :: u 34 :: u 35 :: u 36 :: u 37 :: u 38 :: u 39 :: u 40 :: u 41 :: u 42 :: u 43 :: u 44 :: u 45 :: u 46 :: u 47 :: u 48 :: u 49 :: .bool false :: .tuple #[arr 0, .bool false] :: arr a :: .tuple #[arr 0, .bool false] :: arr 0 :: .bool false :: .tuple #[arr t, .bool true] :: arr a :: arr a :: arr (addP a a) :: .tuple #[arr t, .bool true] :: arr t :: .bool true :: List.replicate 62 un).toArray, []⟩) (by kernel_rfl) ?_
  refine wp_seq ?_
  refine wp_seq ?_
  -- region 10
  refine wp_region_sure ⟨(.agg c0 :: .agg c1 :: pt q1 :: pt q4 :: .bool false :: pt q13 :: pt q14 :: pt q17 :: pt q26 :: .bool true :: pt q39 :: .bool false :: pt q48 :: .bool true :: un :: un :: un :: un :: .bool true :: .bool false :: .agg c0 :: arr a :: .agg c1 :: arr b :: arr 0 :: .tuple #[arr r, .bool true] :: arr a :: arr a :: arr (mulP a a) :: .tuple #[arr r, .bool true] :: arr r :: .bool true :: u 32 :: u 33 :: u 34 :: u 35 :: u 36 :: u 37 :: u 38 :: u 39 :: u 40 :: u 41 :: u 42 :: u 43 :: u 44 :: u 45 :: u 46 :: u 47 :: u 48 :: u 49 :: .bool false :: .tuple #[arr 0, .bool false] :: arr a :: .tuple #[arr 0, .bool false] :: arr 0 :: .bool false :: .tuple #[arr t, .bool true] :: arr a :: arr a :: arr (addP a a) :: .tuple #[arr t, .bool true] :: arr t :: .bool true :: .bool false :: .bool false :: un :: un :: un :: un :: un :: un :: .bool false :: .bool false :: .bool false :: .bool true :: .bool true :: arr 0 :: arr 0 :: .bool true :: .bool false :: .bool false :: .bool false :: List.replicate 43 un).toArray, []⟩ (HA w [(q48, 26, el t), (q39, 26, el 0), (q26, 26, el r), (q17, 26, el 0), (q14, 26, el b), (q13, 26, el a), (q4, 40, c1), (q1, 40, c0)]) [.bool false, .bool false, undef, undef, undef, undef, undef, undef, .bool false, .bool false, .bool false, .bool true, .bool true, arr 0, arr 0, .bool true, .bool false, .bool false, .bool false] (by kernel_rfl) (by kernel_rfl) (by kernel_rfl) (by kernel_rfl) (fun _ _ _ h => h) h52.drew ?_ ?_
  · refine AllSure.cons (OpSure.take (v := .bool false) (by kernel_rfl) (by kernel_rfl) (fun _ _ => (by kernel_rfl))) ?_
    refine AllSure.cons (OpSure.take (v := .bool false) (by kernel_rfl) (by kernel_rfl) (fun _ _ => (by kernel_rfl))) ?_
    refine AllSure.cons (OpSure.skip (by kernel_rfl) (by kernel_rfl)) ?_
    refine AllSure.cons (OpSure.skip (by kernel_rfl) (by kernel_rfl)) ?_
    refine AllSure.cons (OpSure.skip (by kernel_rfl) (by kernel_rfl)) ?_
    refine AllSure.cons (OpSure.skip (by kernel_rfl) (by kernel_rfl)) ?_
    refine AllSure.cons (OpSure.skip (by kernel_rfl) (by kernel_rfl)) ?_
    refine AllSure.cons (OpSure.skip (by kernel_rfl) (by kernel_rfl)) ?_
    refine AllSure.cons (OpSure.take (v := .bool false) (by kernel_rfl) (by kernel_rfl) (fun _ _ => (by kernel_rfl))) ?_
    refine AllSure.cons (OpSure.take (v := .bool false) (by kernel_rfl) (by kernel_rfl) (fun _ _ => (by kernel_rfl))) ?_
    refine AllSure.cons (OpSure.take (v := .bool false) (by kernel_rfl) (by kernel_rfl) (fun _ _ => (by kernel_rfl))) ?_
    refine AllSure.cons (OpSure.take (v := .bool true) (by kernel_rfl) (by kernel_rfl) (fun _ _ => (by kernel_rfl))) ?_
    refine AllSure.cons (OpSure.take (v := .bool true) (by kernel_rfl) (by kernel_rfl) (fun _ _ => (by kernel_rfl))) ?_
    refine AllSure.cons (OpSure.take (v := arr 0) (by kernel_rfl) (by kernel_rfl) (fun _ h => run_load_blk (by kernel_rfl) (h.get 1 rfl) Tryd.underlying26 rfl info26)) ?_
    refine AllSure.cons (OpSure.take (v := arr 0) (by kernel_rfl) (by kernel_rfl) (fun _ h => run_load_blk (by kernel_rfl) (h.get 3 rfl) Tryd.underlying26 rfl info26)) ?_
    refine AllSure.cons (sure_call (v := .bool true) (by kernel_rfl) (by kernel_rfl) enter30 HA.keep #[arr 0, arr 0] (by kernel_rfl) (fun w' h' => Same_yes 0 0 (by decide) (by decide) rfl w')) ?_
    refine AllSure.cons (OpSure.take (v := .bool false) (by kernel_rfl) (by kernel_rfl) (fun _ _ => (by kernel_rfl))) ?_
    refine AllSure.cons (OpSure.take (v := .bool false) (by kernel_rfl) (by kernel_rfl) (fun _ _ => (by kernel_rfl))) ?_
    refine AllSure.cons (OpSure.take (v := .bool false) (by kernel_rfl) (by kernel_rfl) (fun _ _ => (by kernel_rfl))) ?_
    exact AllSure.nil
  intro w53 h54
  refine then_at (F := ⟨(.agg c0 :: .agg c1 :: pt q1 :: pt q4 :: .bool false :: pt q13 :: pt q14 :: pt q17 :: pt q26 :: .bool true :: pt q39 :: .bool false :: pt q48 :: .bool true :: un :: un :: un :: un :: .bool true :: .bool false :: .agg c0 :: arr a :: .agg c1 :: arr b :: arr 0 :: .tuple #[arr r, .bool true] :: arr a :: arr a :: arr (mulP a a) :: .tuple #[arr r, .bool true] :: arr r :: .bool true :: u 32 :: u 33 :: u 34 :: u 35 :: u 36 :: u 37 :: u 38 :: u 39 :: u 40 :: u 41 :: u 42 :: u 43 :: u 44 :: u 45 :: u 46 :: u 47 :: u 48 :: u 49 :: .bool false :: .tuple #[arr 0, .bool false] :: arr a :: .tuple #[arr 0, .bool false] :: arr 0 :: .bool false :: .tuple #[arr t, .bool true] :: arr a :: arr a :: arr (addP a a) :: .tuple #[arr t, .bool true] :: arr t :: .bool true :: .bool false :: .bool false :: un :: un :: un :: un :: un :: un :: .bool false :: .bool false :: .bool false :: .bool true :: .bool true :: arr 0 :: arr 0 :: .bool true :: .bool false :: .bool false :: .bool false :: List.replicate 43 un).toArray, []⟩) (by kernel_rfl) ?_
  refine wp_cond_false (by kernel_rfl) ?_
  refine wp_skip ?_
  refine then_at (F := ⟨(.agg c0 :: .agg c1 :: pt q1 :: pt q4 :: .bool false :: pt q13 :: pt q14 :: pt q17 :: pt q26 :: .bool true :: pt q39 :: .bool false :: pt q48 :: .bool true :: un :: un :: un :: un :: .bool true :: .bool false :: .agg c0 :: arr a :: .agg c1 :: arr b :: arr 0 :: .tuple #[arr r, .bool true] :: arr a :: arr a :: arr (mulP a a) :: .tuple #[arr r, .bool true] :: arr r :: .bool true :: u 32 :: u 33 :: u 34 :: u 35 :: u 36 :: u 37 :: u 38 :: u 39 :: u 40 :: u 41 :: u 42 :: u 43 :: u 44 :: u 45 :: u 46 :: u 47 :: u 48 :: u 49 :: .bool false :: .tuple #[arr 0, .bool false] :: arr a :: .tuple #[arr 0, .bool false] :: arr 0 :: .bool false :: .tuple #[arr t, .bool true] :: arr a :: arr a :: arr (addP a a) :: .tuple #[arr t, .bool true] :: arr t :: .bool true :: .bool false :: .bool false :: un :: un :: un :: un :: un :: un :: .bool false :: .bool false :: .bool false :: .bool true :: .bool true :: arr 0 :: arr 0 :: .bool true :: .bool false :: .bool false :: .bool false :: List.replicate 43 un).toArray, []⟩) (by kernel_rfl) ?_
  refine wp_seq ?_
  refine wp_seq ?_
  -- region 12
  refine wl_region ?_
  refine wl_load h54 5 rfl (by kernel_rfl) (by kernel_rfl) Tryd.underlying26 rfl info26 ?_
  refine wl_load h54 3 rfl (by kernel_rfl) (by kernel_rfl) Tryd.underlying26 rfl info26 ?_
  refine wl_call (v := .bool false) h54 (by kernel_rfl) enter30 #[arr a, arr 0] (by kernel_rfl) (Same_no a 0 ha (by decide) hA w53) ?_
  intro w55 h56
  refine wl_val (.bool false) (by kernel_rfl) (by kernel_rfl) ?_
  refine wl_load h56 4 rfl (by kernel_rfl) (by kernel_rfl) Tryd.underlying26 rfl info26 ?_
  refine wl_load h56 3 rfl (by kernel_rfl) (by kernel_rfl) Tryd.underlying26 rfl info26 ?_
  refine wl_call (v := .bool false) h56 (by kernel_rfl) enter30 #[arr b, arr 0] (by kernel_rfl) (Same_no b 0 hb (by decide) hB w55) ?_
  intro w57 h58
  refine wl_val (.bool false) (by kernel_rfl) (by kernel_rfl) ?_
  refine wl_nil ?_
  refine then_at (F := ⟨(.agg c0 :: .agg c1 :: pt q1 :: pt q4 :: .bool false :: pt q13 :: pt q14 :: pt q17 :: pt q26 :: .bool true :: pt q39 :: .bool false :: pt q48 :: .bool true :: un :: un :: un :: un :: .bool true :: .bool false :: .agg c0 :: arr a :: .agg c1 :: arr b :: arr 0 :: .tuple #[arr r, .bool true] :: arr a :: arr a :: arr (mulP a a) :: .tuple #[arr r, .bool true] :: arr r :: .bool true :: u 32 :: u 33 :: u 34 :: u 35 :: u 36 :: u 37 :: u 38 :: u 39 :: u 40 :: u 41 :: u 42 :: u 43 :: u 44 :: u 45 :: u 46 :: u 47 :: u 48 :: u 49 :: .bool false :: .tuple #[arr 0, .bool false] :: arr a :: .tuple #[arr 0, .bool false] :: arr 0 :: .bool false :: .tuple #[arr t, .bool true] :: arr a :: arr a :: arr (addP a a) :: .tuple #[arr t, .bool true] :: arr t :: .bool true :: .bool false :: .bool false :: un :: un :: un :: un :: un :: un :: .bool false :: .bool false :: .bool false :: .bool true :: .bool true :: arr 0 :: arr 0 :: .bool true :: .bool false :: .bool false :: .bool false :: arr a :: arr 0 :: .bool false :: .bool false :: arr b :: arr 0 :: .bool false :: .bool false :: List.replicate 35 un).toArray, []⟩) (by kernel_rfl) ?_
  refine wp_cond_false (by kernel_rfl) ?_
  refine wp_skip ?_
  refine then_at (F := ⟨(.agg c0 :: .agg c1 :: pt q1 :: pt q4 :: .bool false :: pt q13 :: pt q14 :: pt q17 :: pt q26 :: .bool true :: pt q39 :: .bool false :: pt q48 :: .bool true :: un :: un :: un :: un :: .bool true :: .bool false :: .agg c0 :: arr a :: .agg c1 :: arr b :: arr 0 :: .tuple #[arr r, .bool true] :: arr a :: arr a :: arr (mulP a a) :: .tuple #[arr r, .bool true] :: arr r :: .bool true :: u 32 :: u 33 :: u 34 :: u 35 :: u 36 :: u 37 :: u 38 :: u 39 :: u 40 :: u 41 :: u 42 :: u 43 :: u 44 :: u 45 :: u 46 :: u 47 :: u 48 :: u 49 :: .bool false :: .tuple #[arr 0, .bool false] :: arr a :: .tuple #[arr 0, .bool false] :: arr 0 :: .bool false :: .tuple #[arr t, .bool true] :: arr a :: arr a :: arr (addP a a) :: .tuple #[arr t, .bool true] :: arr t :: .bool true :: .bool false :: .bool false :: un :: un :: un :: un :: un :: un :: .bool false :: .bool false :: .bool false :: .bool true :: .bool true :: arr 0 :: arr 0 :: .bool true :: .bool false :: .bool false :: .bool false :: arr a :: arr 0 :: .bool false :: .bool false :: arr b :: arr 0 :: .bool false :: .bool false :: List.replicate 35 un).toArray, []⟩) (by kernel_rfl) ?_
  refine wp_seq ?_
  -- region 14
  refine wl_region ?_
  refine wl_load h58 4 rfl (by kernel_rfl) (by kernel_rfl) Tryd.underlying26 rfl info26 ?_
  refine wl_call (v := .tuple #[arr 0, .bool false]) h58 (by kernel_rfl) enter31 #[arr b] (by kernel_rfl) (Root_no rfl hb rt3 w57 (VV.out.below h58.old VV.out.big)) ?_
  intro w59 h60
  refine wl_val (.tuple #[arr 0, .bool false]) (by kernel_rfl) (by kernel_rfl) ?_
  refine wl_val (arr 0) (by kernel_rfl) (by kernel_rfl) ?_
  refine wl_val (.bool false) (by kernel_rfl) (by kernel_rfl) ?_
  refine wl_make h60 26 (by kernel_rfl) run_alloc26 ?_
  intro q61 w62 h63
  refine wl_fill (c' := el 0) h63 0 rfl (by kernel_rfl) (by kernel_rfl) (by kernel_rfl) rfl info26 (one_el _) ?_
  intro w64 (h65 : HA w [(q61, 26, el 0), (q48, 26, el t), (q39, 26, el 0), (q26, 26, el r), (q17, 26, el 0), (q14, 26, el b), (q13, 26, el a), (q4, 40, c1), (q1, 40, c0)] w64)
  refine wl_val (.bool false) (by kernel_rfl) (by kernel_rfl) ?_
  refine wl_nil ?_
  refine then_at (F := ⟨(.agg c0 :: .agg c1 :: pt q1 :: pt q4 :: .bool false :: pt q13 :: pt q14 :: pt q17 :: pt q26 :: .bool true :: pt q39 :: .bool false :: pt q48 :: .bool true :: pt q61 :: .bool false :: un :: un :: .bool true :: .bool false :: .agg c0 :: arr a :: .agg c1 :: arr b :: arr 0 :: .tuple #[arr r, .bool true] :: arr a :: arr a :: arr (mulP a a) :: .tuple #[arr r, .bool true] :: arr r :: .bool true :: u 32 :: u 33 :: u 34 :: u 35 :: u 36 :: u 37 :: u 38 :: u 39 :: u 40 :: u 41 :: u 42 :: u 43 :: u 44 :: u 45 :: u 46 :: u 47 :: u 48 :: u 49 :: .bool false :: .tuple #[arr 0, .bool false] :: arr a :: .tuple #[arr 0, .bool false] :: arr 0 :: .bool false :: .tuple #[arr t, .bool true] :: arr a :: arr a :: arr (addP a a) :: .tuple #[arr t, .bool true] :: arr t :: .bool true :: .bool false :: .bool false :: un :: un :: un :: un :: un :: un :: .bool false :: .bool false :: .bool false :: .bool true :: .bool true :: arr 0 :: arr 0 :: .bool true :: .bool false :: .bool false :: .bool false :: arr a :: arr 0 :: .bool false :: .bool false :: arr b :: arr 0 :: .bool false :: .bool false :: un :: un :: un :: un :: un :: un :: un :: un :: un :: un :: un :: un :: un :: .tuple #[arr 0, .bool false] :: arr b :: .tuple #[arr 0, .bool false] :: arr 0 :: .bool false :: List.replicate 17 un).toArray, []⟩) (by kernel_rfl) ?_
  refine wp_seq ?_
  -- region 15
  refine wl_region ?_
  refine wl_load h65 6 rfl (by kernel_rfl) (by kernel_rfl) Tryd.underlying26 rfl info26 ?_
  refine wl_load h65 5 rfl (by kernel_rfl) (by kernel_rfl) Tryd.underlying26 rfl info26 ?_
  refine wl_call (v := arr (mulP a b)) h65 (by kernel_rfl) enter26 #[arr a, arr b] (by kernel_rfl) (Mul_any a b ha hb w64 (VV.out.below h65.old VV.out.big)) ?_
  intro w66 h67
  refine wl_call (v := .tuple #[arr p, .bool true]) h67 (by kernel_rfl) enter31 #[arr (mulP a b)] (by kernel_rfl) (Root_yes rfl (mulP_lt _ _) rt4 w66 (VV.out.below h67.old VV.out.big)) ?_
  intro w68 h69
  refine wl_val (.tuple #[arr p, .bool true]) (by kernel_rfl) (by kernel_rfl) ?_
  refine wl_val (arr p) (by kernel_rfl) (by kernel_rfl) ?_
  refine wl_val (.bool true) (by kernel_rfl) (by kernel_rfl) ?_
  refine wl_make h69 26 (by kernel_rfl) run_alloc26 ?_
  intro q70 w71 h72
  refine wl_fill (c' := el p) h72 0 rfl (by kernel_rfl) (by kernel_rfl) (by kernel_rfl) rfl info26 (one_el _) ?_
  intro w73 (h74 : HA w [(q70, 26, el p), (q61, 26, el 0), (q48, 26, el t), (q39, 26, el 0), (q26, 26, el r), (q17, 26, el 0), (q14, 26, el b), (q13, 26, el a), (q4, 40, c1), (q1, 40, c0)] w73)
  refine wl_val (.bool true) (by kernel_rfl) (by kernel_rfl) ?_
  refine wl_nil ?_
  refine then_at (F := ⟨(.agg c0 :: .agg c1 :: pt q1 :: pt q4 :: .bool false :: pt q13 :: pt q14 :: pt q17 :: pt q26 :: .bool true :: pt q39 :: .bool false :: pt q48 :: .bool true :: pt q61 :: .bool false :: pt q70 :: .bool true :: .bool true :: .bool false :: .agg c0 :: arr a :: .agg c1 :: arr b :: arr 0 :: .tuple #[arr r, .bool true] :: arr a :: arr a :: arr (mulP a a) :: .tuple #[arr r, .bool true] :: arr r :: .bool true :: u 32 :: u 33 :: u 34 :: u 35 :: u 36 :: u 37 :: u 38 :: u 39 :: u 40 :: u 41 :: u 42 :: u 43 :: u 44 :: u 45 :: u 46 :: u 47 :: u 48 :: u 49 :: .bool false :: .tuple #[arr 0, .bool false] :: arr a :: .tuple #[arr 0, .bool false] :: arr 0 :: .bool false :: .tuple #[arr t, .bool true] :: arr a :: arr a :: arr (addP a a) :: .tuple #[arr t, .bool true] :: arr t :: .bool true :: .bool false :: .bool false :: un :: un :: un :: un :: un :: un :: .bool false :: .bool false :: .bool false :: .bool true :: .bool true :: arr 0 :: arr 0 :: .bool true :: .bool false :: .bool false :: .bool false :: arr a :: arr 0 :: .bool false :: .bool false :: arr b :: arr 0 :: .bool false :: .bool false :: un :: un :: un :: un :: un :: un :: un :: un :: un :: un :: un :: un :: un :: .tuple #[arr 0, .bool false] :: arr b :: .tuple #[arr 0, .bool false] :: arr 0 :: .bool false :: .tuple #[arr p, .bool true] :: arr a :: arr b :: arr (mulP a b) :: .tuple #[arr p, .bool true] :: arr p :: .bool true :: List.replicate 10 un).toArray, []⟩) (by kernel_rfl) ?_
  refine wp_seq ?_
  -- region 16
  refine wl_region ?_
  refine wl_val (.bool false) (by kernel_rfl) (by kernel_rfl) ?_
  refine wl_val (.bool true) (by kernel_rfl) (by kernel_rfl) ?_
  refine wl_val (.bool true) (by kernel_rfl) (run_neb false true (by kernel_rfl) (by kernel_rfl)) ?_
  refine wl_val (.bool true) (by kernel_rfl) (by kernel_rfl) ?_
  refine wl_val (.bool true) (by kernel_rfl) (by kernel_rfl) ?_
  refine wl_val (.bool false) (by kernel_rfl) (by kernel_rfl) ?_
  refine wl_val (.bool false) (by kernel_rfl) (by kernel_rfl) ?_
  refine wl_val (.bool true) (by kernel_rfl) (run_eqb false false (by kernel_rfl) (by kernel_rfl)) ?_
  refine wl_val (.bool true) (by kernel_rfl) (run_eqb true true (by kernel_rfl) (by kernel_rfl)) ?_
  refine wl_val (.bool true) (by kernel_rfl) (by kernel_rfl) ?_
  refine wl_val (.bool true) (by kernel_rfl) (by kernel_rfl) ?_
  refine wl_nil ?_
  refine then_at (F := ⟨(.agg c0 :: .agg c1 :: pt q1 :: pt q4 :: .bool true :: pt q13 :: pt q14 :: pt q17 :: pt q26 :: .bool true :: pt q39 :: .bool false :: pt q48 :: .bool true :: pt q61 :: .bool false :: pt q70 :: .bool true :: .bool true :: .bool false :: .agg c0 :: arr a :: .agg c1 :: arr b :: arr 0 :: .tuple #[arr r, .bool true] :: arr a :: arr a :: arr (mulP a a) :: .tuple #[arr r, .bool true] :: arr r :: .bool true :: u 32 :: u 33 :: u 34 :: u 35 :: u 36 :: u 37 :: u 38 :: u 39 :: u 40 :: u 41 :: u 42 :: u 43 :: u 44 :: u 45 :: u 46 :: u 47 :: u 48 :: u 49 :: .bool false :: .tuple #[arr 0, .bool false] :: arr a :: .tuple #[arr 0, .bool false] :: arr 0 :: .bool false :: .tuple #[arr t, .bool true] :: arr a :: arr a :: arr (addP a a) :: .tuple #[arr t, .bool true] :: arr t :: .bool true :: .bool false :: .bool false :: un :: un :: un :: un :: un :: un :: .bool false :: .bool false :: .bool false :: .bool true :: .bool true :: arr 0 :: arr 0 :: .bool true :: .bool false :: .bool false :: .bool false :: arr a :: arr 0 :: .bool false :: .bool false :: arr b :: arr 0 :: .bool false :: .bool false :: un :: un :: un :: un :: un :: un :: un :: un :: un :: un :: un :: un :: un :: .tuple #[arr 0, .bool false] :: arr b :: .tuple #[arr 0, .bool false] :: arr 0 :: .bool false :: .tuple #[arr p, .bool true] :: arr a :: arr b :: arr (mulP a b) :: .tuple #[arr p, .bool true] :: arr p :: .bool true :: .bool false :: .bool true :: .bool true :: .bool true :: .bool true :: .bool false :: .bool false :: .bool true :: .bool true :: .bool true :: List.replicate 0 un).toArray, []⟩) (by kernel_rfl) ?_
  refine wp_ret ?_
  repeat first | refine then_ret ?_ | refine block_ret ?_
  exact bodyPost_ret (v := .bool true) (by kernel_rfl) rfl ⟨rfl, h74.old⟩
theorem has_some {a : Nat} (h : hasR a = true) : ∃ s, rootP a = some s := by
  unfold hasR at h
  exact Option.isSome_iff_exists.1 h
theorem has_none {a : Nat} (h : hasR a = false) : rootP a = none := by
  unfold hasR at h
  cases hr : rootP a with
  | none => rfl
  | some _ => rw [hr] at h; cases h
theorem FieldSquares_any (l m : List UInt8) (hl : l.length = 32) (hm : m.length = 32) (w : World) (V : Vars w) :
    Calls Tryd.prog 8 #[.agg (cs l).toArray, .agg (cs m).toArray] w fun e w' => e = .returned (.bool true) ∧ Below w.heap.size w w' := by
  have z0 : (cs l).toArray.size = 32 := by simp [cs, hl]
  have z1 : (cs m).toArray.size = 32 := by simp [cs, hm]
  have KA := fun w V => any1_any l hl w V
  have KB := fun w V => any1_any m hm w V
  have ha := anyP_lt l
  have hb := anyP_lt m
  generalize anyP l = a at *
  generalize anyP m = b at *
  obtain ⟨r, hr, hr2, hrP, hR0⟩ := root_square a ha
  have hR : r = a ∨ r ≠ a ∧ r = negP a := by
    by_cases h : r = a
    · exact .inl h
    · exact .inr ⟨h, hR0.resolve_left h⟩
  have yes : ∀ {x : Nat}, hasR x = true → ∃ s, rootP x = some s ∧ mulP s s = x ∧ s < P := fun h => by
    obtain ⟨s, hs⟩ := has_some h
    exact ⟨s, hs, (root_is hs).1, (root_is hs).2.2⟩
  by_cases hA : a = 0
  · have h0 : hasR a = true := by rw [hA]; unfold hasR; rw [root_zero]; rfl
    have h00 : hasR (addP a a) = true := by rw [hA]; unfold hasR; rw [show addP 0 0 = 0 from rfl, root_zero]; rfl
    obtain ⟨s, e1, e2, e3⟩ := yes h0
    obtain ⟨t, f1, f2, f3⟩ := yes h00
    exact sq_nil _ _ _ _ _ z0 z1 ha hb hr hr2 hrP hR hA s e1 e2 e3 t f1 f3 KA KB w V
  · have ht := hasR_twice a ha hA
    by_cases hB : b = 0
    · cases h : hasR a with
      | true =>
        rw [h] at ht
        obtain ⟨s, e1, e2, e3⟩ := yes h
        exact sq_b1 _ _ _ _ _ z0 z1 ha hb hr hr2 hrP hR hA hB s e1 e2 e3 (has_none ht) KA KB w V
      | false =>
        rw [h] at ht
        obtain ⟨t, f1, f2, f3⟩ := yes ht
        exact sq_b2 _ _ _ _ _ z0 z1 ha hb hr hr2 hrP hR hA hB (has_none h) t f1 f3 KA KB w V
    · have hm := hasR_mul a b ha hb hA hB
      cases h : hasR a with
      | true =>
        rw [h] at ht hm
        obtain ⟨s, e1, e2, e3⟩ := yes h
        cases h3 : hasR b with
        | true =>
          rw [h3] at hm
          obtain ⟨o, g1, g2, g3⟩ := yes h3
          obtain ⟨p, i1, i2, i3⟩ := yes hm
          exact sq_c1 _ _ _ _ _ z0 z1 ha hb hr hr2 hrP hR hA hB s e1 e2 e3 (has_none ht) o g1 g3 p i1 i3 KA KB w V
        | false =>
          rw [h3] at hm
          exact sq_c2 _ _ _ _ _ z0 z1 ha hb hr hr2 hrP hR hA hB s e1 e2 e3 (has_none ht) (has_none h3) (has_none hm) KA KB w V
      | false =>
        rw [h] at ht hm
        obtain ⟨t, f1, f2, f3⟩ := yes ht
        cases h3 : hasR b with
        | true =>
          rw [h3] at hm
          obtain ⟨o, g1, g2, g3⟩ := yes h3
          exact sq_c3 _ _ _ _ _ z0 z1 ha hb hr hr2 hrP hR hA hB (has_none h) t f1 f3 o g1 g3 (has_none hm) KA KB w V
        | false =>
          rw [h3] at hm
          obtain ⟨p, i1, i2, i3⟩ := yes hm
          exact sq_c4 _ _ _ _ _ z0 z1 ha hb hr hr2 hrP hR hA hB (has_none h) t f1 f3 (has_none h3) p i1 i3 KA KB w V
end Go.Proofs.YtbmfmamhidccbaaDoor
