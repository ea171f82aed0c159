/-
  FieldDivides: the walk.
-/
import Derived.Test.YtbmfmamhidccbaaDoorLaw
namespace Go.Proofs.YtbmfmamhidccbaaDoor
open Go.RowKit Num

set_option linter.unusedVariables false in
set_option maxRecDepth 100000 in
set_option maxHeartbeats 4000000 in
theorem div1 (c0 c1 : Array Value) (b : Nat) (hz0 : c0.size = 32) (hz1 : c1.size = 32) (hb : b < P)
    (KA : ∀ w, Vars w → Calls Tryd.prog 20 #[.agg c0] w fun e w' => e = .returned (arr 0) ∧ Below w.heap.size w w')
    (KB : ∀ w, Vars w → Calls Tryd.prog 20 #[.agg c1] w fun e w' => e = .returned (arr b) ∧ Below w.heap.size w w') (w : World) (V : Vars w) :
    Calls Tryd.prog 7 #[.agg c0, .agg c1] w fun e w' => e = .returned (.bool true) ∧ Below w.heap.size w w' := by
  have VV := hide V
  have H0 := HA.start w
  clear V
  go_enter Tryd.func7, Tryd.ntmps7
  refine wp_seq ?_
  -- region 0
  refine wl_region ?_
  refine wl_make H0 40 (by kernel_rfl) (run_box40 (c := c0) (by kernel_rfl)) ?_
  intro q1 w2 h3
  refine wl_make h3 40 (by kernel_rfl) (run_box40 (c := c1) (by kernel_rfl)) ?_
  intro q4 w5 h6
  refine wl_val (.bool false) (by kernel_rfl) (by kernel_rfl) ?_
  refine wl_nil ?_
  refine then_at (F := ⟨(.agg c0 :: .agg c1 :: pt q1 :: pt q4 :: .bool false :: List.replicate 60 un).toArray, []⟩) (by kernel_rfl) ?_
  refine wp_seq ?_
  refine wp_seq ?_
  -- region 1
  refine wl_region ?_
  refine wl_call (v := .bool true) h6 (by kernel_rfl) enter19 #[] (by kernel_rfl) (works_any w5 (VV.out.below h6.old VV.out.big)) ?_
  intro w7 h8
  refine wl_val (.bool false) (by kernel_rfl) (by kernel_rfl) ?_
  refine wl_nil ?_
  refine then_at (F := ⟨(.agg c0 :: .agg c1 :: pt q1 :: pt q4 :: .bool false :: un :: un :: un :: un :: .bool true :: .bool false :: List.replicate 54 un).toArray, []⟩) (by kernel_rfl) ?_
  refine wp_cond_false (by kernel_rfl) ?_
  refine wp_skip ?_
  refine then_at (F := ⟨(.agg c0 :: .agg c1 :: pt q1 :: pt q4 :: .bool false :: un :: un :: un :: un :: .bool true :: .bool false :: List.replicate 54 un).toArray, []⟩) (by kernel_rfl) ?_
  refine wp_seq ?_
  -- region 3
  obtain ⟨B9, eB9⟩ : ∃ B, B = w7.heap.size := ⟨_, rfl⟩
  refine wp_region_ghost (fun g : Nat → Nat => (⟨(.agg c0 :: .agg c1 :: pt q1 :: pt q4 :: .bool false :: pt (g 4) :: pt (g 5) :: un :: un :: .bool true :: .bool false :: .agg c0 :: arr 0 :: .agg c1 :: arr b :: List.replicate 50 un).toArray, []⟩ : Act)) (GS w [(q4, 40, c1), (q1, 40, c0)] B9 2 4 6 26 (el 0) (fun j => el ([0, b].getD j 0))) [.agg c0, arr 0, .agg c1, arr b, .pointer (some ⟨0, 0, none⟩), .pointer (some ⟨0, 0, none⟩), undef, undef] (by kernel_rfl) (by kernel_rfl) (by kernel_rfl) (by kernel_rfl) (fun _ _ _ _ h => h) (fun d hd => GS.start h8.drew eB9 (by decide) (fun _ _ => rfl) (fun j hj => hd j (Nat.lt_of_lt_of_le hj (by decide)))) ?_ ?_
  · refine AllGhost.cons (ghost_load 1 rfl (by decide) (fun _ => by kernel_rfl) (fun _ => by kernel_rfl) (fun _ => by kernel_rfl) Tryd.underlying40 rfl (by first | (show _ = some c0.size; rw [hz0]; exact info40) | (show _ = some c1.size; rw [hz1]; exact info40))) ?_
    refine AllGhost.cons (ghost_call (v := arr 0) (by decide) (fun _ => by kernel_rfl) (fun _ => by kernel_rfl) enter20 #[.agg c0] (fun _ => by kernel_rfl) (fun w' h' => KA w' (VV.out.below h'.old VV.out.big))) ?_
    refine AllGhost.cons (ghost_load 0 rfl (by decide) (fun _ => by kernel_rfl) (fun _ => by kernel_rfl) (fun _ => by kernel_rfl) Tryd.underlying40 rfl (by first | (show _ = some c0.size; rw [hz0]; exact info40) | (show _ = some c1.size; rw [hz1]; exact info40))) ?_
    refine AllGhost.cons (ghost_call (v := arr b) (by decide) (fun _ => by kernel_rfl) (fun _ => by kernel_rfl) enter20 #[.agg c1] (fun _ => by kernel_rfl) (fun w' h' => KB w' (VV.out.below h'.old VV.out.big))) ?_
    refine AllGhost.cons (ghost_make 0 (by decide) rfl (fun _ => by kernel_rfl) (fun _ _ => by kernel_rfl) (fun _ _ => run_alloc26)) ?_
    refine AllGhost.cons (ghost_make 1 (by decide) rfl (fun _ => by kernel_rfl) (fun _ _ => by kernel_rfl) (fun _ _ => run_alloc26)) ?_
    refine AllGhost.cons (ghost_fill 0 (by decide) rfl (fun _ => by kernel_rfl) (fun _ => by kernel_rfl) (fun _ => by kernel_rfl) (fun _ => by kernel_rfl) info26 (one_el _) (by kernel_rfl)) ?_
    refine AllGhost.cons (ghost_fill 1 (by decide) rfl (fun _ => by kernel_rfl) (fun _ => by kernel_rfl) (fun _ => by kernel_rfl) (fun _ => by kernel_rfl) info26 (one_el _) (by kernel_rfl)) ?_
    exact AllGhost.nil
  intro g w10 g11
  have h12 : HA w [(g 5, 26, el b), (g 4, 26, el 0), (q4, 40, c1), (q1, 40, c0)] w10 := g11.two
  clear g11 eB9
  generalize g 4 = q13 at h12 ⊢
  generalize g 5 = q14 at h12 ⊢
  clear g
  refine then_at (F := ⟨(.agg c0 :: .agg c1 :: pt q1 :: pt q4 :: .bool false :: pt q13 :: pt q14 :: un :: un :: .bool true :: .bool false :: .agg c0 :: arr 0 :: .agg c1 :: arr b :: List.replicate 50 un).toArray, []⟩) (by kernel_rfl) ?_
  refine wp_seq ?_
  -- region 4
  refine wl_region ?_
  refine wl_call (v := arr 0) h12 (by kernel_rfl) enter17 #[iN .u32 0] (by kernel_rfl) (Small_any 0 (by decide) w10) ?_
  intro w15 h16
  refine wl_call (v := arr 1) h16 (by kernel_rfl) enter17 #[iN .u32 1] (by kernel_rfl) (Small_any 1 (by decide) w15) ?_
  intro w17 h18
  refine wl_make h18 26 (by kernel_rfl) run_alloc26 ?_
  intro q19 w20 h21
  refine wl_make h21 26 (by kernel_rfl) run_alloc26 ?_
  intro q22 w23 h24
  refine wl_fill (c' := el 0) h24 1 rfl (by kernel_rfl) (by kernel_rfl) (by kernel_rfl) rfl info26 (one_el _) ?_
  intro w25 (h26 : HA w [(q22, 26, el 0), (q19, 26, el 0), (q14, 26, el b), (q13, 26, el 0), (q4, 40, c1), (q1, 40, c0)] w25)
  refine wl_fill (c' := el 1) h26 0 rfl (by kernel_rfl) (by kernel_rfl) (by kernel_rfl) rfl info26 (one_el _) ?_
  intro w27 (h28 : HA w [(q22, 26, el 1), (q19, 26, el 0), (q14, 26, el b), (q13, 26, el 0), (q4, 40, c1), (q1, 40, c0)] w27)
  refine wl_nil ?_
  refine then_at (F := ⟨(.agg c0 :: .agg c1 :: pt q1 :: pt q4 :: .bool false :: pt q13 :: pt q14 :: pt q19 :: pt q22 :: .bool true :: .bool false :: .agg c0 :: arr 0 :: .agg c1 :: arr b :: arr 0 :: arr 1 :: List.replicate 48 un).toArray, []⟩) (by kernel_rfl) ?_
  refine wp_seq ?_
  refine wp_seq ?_
  -- region 5
  refine wl_region ?_
  refine wl_load h28 3 rfl (by kernel_rfl) (by kernel_rfl) Tryd.underlying26 rfl info26 ?_
  refine wl_load h28 1 rfl (by kernel_rfl) (by kernel_rfl) Tryd.underlying26 rfl info26 ?_
  refine wl_call (v := .bool true) h28 (by kernel_rfl) enter30 #[arr 0, arr 0] (by kernel_rfl) (Same_yes 0 0 (by decide) (by decide) rfl w27) ?_
  intro w29 h30
  refine wl_nil ?_
  refine then_at (F := ⟨(.agg c0 :: .agg c1 :: pt q1 :: pt q4 :: .bool false :: pt q13 :: pt q14 :: pt q19 :: pt q22 :: .bool true :: .bool false :: .agg c0 :: arr 0 :: .agg c1 :: arr b :: arr 0 :: arr 1 :: arr 0 :: arr 0 :: .bool true :: List.replicate 45 un).toArray, []⟩) (by kernel_rfl) ?_
  refine wp_cond_true (by kernel_rfl) ?_
  refine wp_seq ?_
  -- region 6
  refine wp_region_sure ⟨(.agg c0 :: .agg c1 :: pt q1 :: pt q4 :: .bool true :: pt q13 :: pt q14 :: pt q19 :: pt q22 :: .bool true :: .bool false :: .agg c0 :: arr 0 :: .agg c1 :: arr b :: arr 0 :: arr 1 :: arr 0 :: arr 0 :: .bool true :: arr 0 :: arr (invE 0) :: arr 0 :: .bool true :: .bool true :: arr 0 :: arr b :: arr (mulP 0 b) :: arr 0 :: .bool true :: .bool true :: List.replicate 34 un).toArray, []⟩ (HA w [(q22, 26, el 1), (q19, 26, el 0), (q14, 26, el b), (q13, 26, el 0), (q4, 40, c1), (q1, 40, c0)]) [arr 0, arr (invE 0), arr 0, .bool true, .bool true, arr 0, arr b, arr (mulP 0 b), arr 0, .bool true, .bool true, .bool true] (by kernel_rfl) (by kernel_rfl) (by kernel_rfl) (by kernel_rfl) (fun _ _ _ h => h) h30.drew ?_ ?_
  · refine AllSure.cons (OpSure.take (v := arr 0) (by kernel_rfl) (by kernel_rfl) (fun _ h => run_load_blk (by kernel_rfl) (h.get 3 rfl) Tryd.underlying26 rfl info26)) ?_
    refine AllSure.cons (sure_call (v := arr (invE 0)) (by kernel_rfl) (by kernel_rfl) enter33 HA.keep #[arr 0] (by kernel_rfl) (fun w' h' => Inv_any 0 (by decide) w' (VV.out.below h'.old VV.out.big))) ?_
    refine AllSure.cons (OpSure.take (v := arr 0) (by kernel_rfl) (by kernel_rfl) (fun _ h => run_load_blk (by kernel_rfl) (h.get 1 rfl) Tryd.underlying26 rfl info26)) ?_
    refine AllSure.cons (sure_call (v := .bool true) (by kernel_rfl) (by kernel_rfl) enter30 HA.keep #[arr (invE 0), arr 0] (by kernel_rfl) (fun w' h' => Same_yes (invE 0) 0 (invE_lt _) (by decide) invE_zero w')) ?_
    refine AllSure.cons (OpSure.take (v := .bool true) (by kernel_rfl) (by kernel_rfl) (fun _ _ => (by kernel_rfl))) ?_
    refine AllSure.cons (OpSure.take (v := arr 0) (by kernel_rfl) (by kernel_rfl) (fun _ h => run_load_blk (by kernel_rfl) (h.get 3 rfl) Tryd.underlying26 rfl info26)) ?_
    refine AllSure.cons (OpSure.take (v := arr b) (by kernel_rfl) (by kernel_rfl) (fun _ h => run_load_blk (by kernel_rfl) (h.get 2 rfl) Tryd.underlying26 rfl info26)) ?_
    refine AllSure.cons (sure_call (v := arr (mulP 0 b)) (by kernel_rfl) (by kernel_rfl) enter26 HA.keep #[arr 0, arr b] (by kernel_rfl) (fun w' h' => Mul_any 0 b (by decide) hb w' (VV.out.below h'.old VV.out.big))) ?_
    refine AllSure.cons (OpSure.take (v := arr 0) (by kernel_rfl) (by kernel_rfl) (fun _ h => run_load_blk (by kernel_rfl) (h.get 1 rfl) Tryd.underlying26 rfl info26)) ?_
    refine AllSure.cons (sure_call (v := .bool true) (by kernel_rfl) (by kernel_rfl) enter30 HA.keep #[arr (mulP 0 b), arr 0] (by kernel_rfl) (fun w' h' => Same_yes (mulP 0 b) 0 (mulP_lt _ _) (by decide) (mulP_zero b) w')) ?_
    refine AllSure.cons (OpSure.take (v := .bool true) (by kernel_rfl) (by kernel_rfl) (fun _ _ => (by kernel_rfl))) ?_
    refine AllSure.cons (OpSure.take (v := .bool true) (by kernel_rfl) (by kernel_rfl) (fun _ _ => (by kernel_rfl))) ?_
    exact AllSure.nil
  intro w31 h32
  refine then_at (F := ⟨(.agg c0 :: .agg c1 :: pt q1 :: pt q4 :: .bool true :: pt q13 :: pt q14 :: pt q19 :: pt q22 :: .bool true :: .bool false :: .agg c0 :: arr 0 :: .agg c1 :: arr b :: arr 0 :: arr 1 :: arr 0 :: arr 0 :: .bool true :: arr 0 :: arr (invE 0) :: arr 0 :: .bool true :: .bool true :: arr 0 :: arr b :: arr (mulP 0 b) :: arr 0 :: .bool true :: .bool true :: List.replicate 34 un).toArray, []⟩) (by kernel_rfl) ?_
  refine wp_ret ?_
  repeat first | refine then_ret ?_ | refine block_ret ?_
  exact bodyPost_ret (v := .bool true) (by kernel_rfl) rfl ⟨rfl, h32.old⟩
set_option linter.unusedVariables false in
set_option maxRecDepth 100000 in
set_option maxHeartbeats 4000000 in
theorem div2 (c0 c1 : Array Value) (a b : Nat) (hz0 : c0.size = 32) (hz1 : c1.size = 32) (ha : a < P) (hb : b < P) (hA : a ≠ 0) (hB : b = 0)
    (KA : ∀ w, Vars w → Calls Tryd.prog 20 #[.agg c0] w fun e w' => e = .returned (arr a) ∧ Below w.heap.size w w')
    (KB : ∀ w, Vars w → Calls Tryd.prog 20 #[.agg c1] w fun e w' => e = .returned (arr b) ∧ Below w.heap.size w w') (w : World) (V : Vars w) :
    Calls Tryd.prog 7 #[.agg c0, .agg c1] w fun e w' => e = .returned (.bool true) ∧ Below w.heap.size w w' := by
  have VV := hide V
  have H0 := HA.start w
  clear V
  go_enter Tryd.func7, Tryd.ntmps7
  refine wp_seq ?_
  -- region 0
  refine wl_region ?_
  refine wl_make H0 40 (by kernel_rfl) (run_box40 (c := c0) (by kernel_rfl)) ?_
  intro q1 w2 h3
  refine wl_make h3 40 (by kernel_rfl) (run_box40 (c := c1) (by kernel_rfl)) ?_
  intro q4 w5 h6
  refine wl_val (.bool false) (by kernel_rfl) (by kernel_rfl) ?_
  refine wl_nil ?_
  refine then_at (F := ⟨(.agg c0 :: .agg c1 :: pt q1 :: pt q4 :: .bool false :: List.replicate 60 un).toArray, []⟩) (by kernel_rfl) ?_
  refine wp_seq ?_
  refine wp_seq ?_
  -- region 1
  refine wl_region ?_
  refine wl_call (v := .bool true) h6 (by kernel_rfl) enter19 #[] (by kernel_rfl) (works_any w5 (VV.out.below h6.old VV.out.big)) ?_
  intro w7 h8
  refine wl_val (.bool false) (by kernel_rfl) (by kernel_rfl) ?_
  refine wl_nil ?_
  refine then_at (F := ⟨(.agg c0 :: .agg c1 :: pt q1 :: pt q4 :: .bool false :: un :: un :: un :: un :: .bool true :: .bool false :: List.replicate 54 un).toArray, []⟩) (by kernel_rfl) ?_
  refine wp_cond_false (by kernel_rfl) ?_
  refine wp_skip ?_
  refine then_at (F := ⟨(.agg c0 :: .agg c1 :: pt q1 :: pt q4 :: .bool false :: un :: un :: un :: un :: .bool true :: .bool false :: List.replicate 54 un).toArray, []⟩) (by kernel_rfl) ?_
  refine wp_seq ?_
  -- region 3
  obtain ⟨B9, eB9⟩ : ∃ B, B = w7.heap.size := ⟨_, rfl⟩
  refine wp_region_ghost (fun g : Nat → Nat => (⟨(.agg c0 :: .agg c1 :: pt q1 :: pt q4 :: .bool false :: pt (g 4) :: pt (g 5) :: un :: un :: .bool true :: .bool false :: .agg c0 :: arr a :: .agg c1 :: arr b :: List.replicate 50 un).toArray, []⟩ : Act)) (GS w [(q4, 40, c1), (q1, 40, c0)] B9 2 4 6 26 (el 0) (fun j => el ([a, b].getD j a))) [.agg c0, arr a, .agg c1, arr b, .pointer (some ⟨0, 0, none⟩), .pointer (some ⟨0, 0, none⟩), undef, undef] (by kernel_rfl) (by kernel_rfl) (by kernel_rfl) (by kernel_rfl) (fun _ _ _ _ h => h) (fun d hd => GS.start h8.drew eB9 (by decide) (fun _ _ => rfl) (fun j hj => hd j (Nat.lt_of_lt_of_le hj (by decide)))) ?_ ?_
  · refine AllGhost.cons (ghost_load 1 rfl (by decide) (fun _ => by kernel_rfl) (fun _ => by kernel_rfl) (fun _ => by kernel_rfl) Tryd.underlying40 rfl (by first | (show _ = some c0.size; rw [hz0]; exact info40) | (show _ = some c1.size; rw [hz1]; exact info40))) ?_
    refine AllGhost.cons (ghost_call (v := arr a) (by decide) (fun _ => by kernel_rfl) (fun _ => by kernel_rfl) enter20 #[.agg c0] (fun _ => by kernel_rfl) (fun w' h' => KA w' (VV.out.below h'.old VV.out.big))) ?_
    refine AllGhost.cons (ghost_load 0 rfl (by decide) (fun _ => by kernel_rfl) (fun _ => by kernel_rfl) (fun _ => by kernel_rfl) Tryd.underlying40 rfl (by first | (show _ = some c0.size; rw [hz0]; exact info40) | (show _ = some c1.size; rw [hz1]; exact info40))) ?_
    refine AllGhost.cons (ghost_call (v := arr b) (by decide) (fun _ => by kernel_rfl) (fun _ => by kernel_rfl) enter20 #[.agg c1] (fun _ => by kernel_rfl) (fun w' h' => KB w' (VV.out.below h'.old VV.out.big))) ?_
    refine AllGhost.cons (ghost_make 0 (by decide) rfl (fun _ => by kernel_rfl) (fun _ _ => by kernel_rfl) (fun _ _ => run_alloc26)) ?_
    refine AllGhost.cons (ghost_make 1 (by decide) rfl (fun _ => by kernel_rfl) (fun _ _ => by kernel_rfl) (fun _ _ => run_alloc26)) ?_
    refine AllGhost.cons (ghost_fill 0 (by decide) rfl (fun _ => by kernel_rfl) (fun _ => by kernel_rfl) (fun _ => by kernel_rfl) (fun _ => by kernel_rfl) info26 (one_el _) (by kernel_rfl)) ?_
    refine AllGhost.cons (ghost_fill 1 (by decide) rfl (fun _ => by kernel_rfl) (fun _ => by kernel_rfl) (fun _ => by kernel_rfl) (fun _ => by kernel_rfl) info26 (one_el _) (by kernel_rfl)) ?_
    exact AllGhost.nil
  intro g w10 g11
  have h12 : HA w [(g 5, 26, el b), (g 4, 26, el a), (q4, 40, c1), (q1, 40, c0)] w10 := g11.two
  clear g11 eB9
  generalize g 4 = q13 at h12 ⊢
  generalize g 5 = q14 at h12 ⊢
  clear g
  refine then_at (F := ⟨(.agg c0 :: .agg c1 :: pt q1 :: pt q4 :: .bool false :: pt q13 :: pt q14 :: un :: un :: .bool true :: .bool false :: .agg c0 :: arr a :: .agg c1 :: arr b :: List.replicate 50 un).toArray, []⟩) (by kernel_rfl) ?_
  refine wp_seq ?_
  -- region 4
  refine wl_region ?_
  refine wl_call (v := arr 0) h12 (by kernel_rfl) enter17 #[iN .u32 0] (by kernel_rfl) (Small_any 0 (by decide) w10) ?_
  intro w15 h16
  refine wl_call (v := arr 1) h16 (by kernel_rfl) enter17 #[iN .u32 1] (by kernel_rfl) (Small_any 1 (by decide) w15) ?_
  intro w17 h18
  refine wl_make h18 26 (by kernel_rfl) run_alloc26 ?_
  intro q19 w20 h21
  refine wl_make h21 26 (by kernel_rfl) run_alloc26 ?_
  intro q22 w23 h24
  refine wl_fill (c' := el 0) h24 1 rfl (by kernel_rfl) (by kernel_rfl) (by kernel_rfl) rfl info26 (one_el _) ?_
  intro w25 (h26 : HA w [(q22, 26, el 0), (q19, 26, el 0), (q14, 26, el b), (q13, 26, el a), (q4, 40, c1), (q1, 40, c0)] w25)
  refine wl_fill (c' := el 1) h26 0 rfl (by kernel_rfl) (by kernel_rfl) (by kernel_rfl) rfl info26 (one_el _) ?_
  intro w27 (h28 : HA w [(q22, 26, el 1), (q19, 26, el 0), (q14, 26, el b), (q13, 26, el a), (q4, 40, c1), (q1, 40, c0)] w27)
  refine wl_nil ?_
  refine then_at (F := ⟨(.agg c0 :: .agg c1 :: pt q1 :: pt q4 :: .bool false :: pt q13 :: pt q14 :: pt q19 :: pt q22 :: .bool true :: .bool false :: .agg c0 :: arr a :: .agg c1 :: arr b :: arr 0 :: arr 1 :: List.replicate 48 un).toArray, []⟩) (by kernel_rfl) ?_
  refine wp_seq ?_
  refine wp_seq ?_
  -- region 5
  refine wl_region ?_
  refine wl_load h28 3 rfl (by kernel_rfl) (by kernel_rfl) Tryd.underlying26 rfl info26 ?_
  refine wl_load h28 1 rfl (by kernel_rfl) (by kernel_rfl) Tryd.underlying26 rfl info26 ?_
  refine wl_call (v := .bool false) h28 (by kernel_rfl) enter30 #[arr a, arr 0] (by kernel_rfl) (Same_no a 0 ha (by decide) hA w27) ?_
  intro w29 h30
  refine wl_nil ?_
  refine then_at (F := ⟨(.agg c0 :: .agg c1 :: pt q1 :: pt q4 :: .bool false :: pt q13 :: pt q14 :: pt q19 :: pt q22 :: .bool true :: .bool false :: .agg c0 :: arr a :: .agg c1 :: arr b :: arr 0 :: arr 1 :: arr a :: arr 0 :: .bool false :: List.replicate 45 un).toArray, []⟩) (by kernel_rfl) ?_
  refine wp_cond_false (by kernel_rfl) ?_
  refine wp_skip ?_
  refine then_at (F := ⟨(.agg c0 :: .agg c1 :: pt q1 :: pt q4 :: .bool false :: pt q13 :: pt q14 :: pt q19 :: pt q22 :: .bool true :: .bool false :: .agg c0 :: arr a :: .agg c1 :: arr b :: arr 0 :: arr 1 :: arr a :: arr 0 :: .bool false :: List.replicate 45 un).toArray, []⟩) (by kernel_rfl) ?_
  refine wp_seq ?_
  -- region 7
  refine wp_region_sure ⟨(.agg c0 :: .agg c1 :: pt q1 :: pt q4 :: .bool true :: pt q13 :: pt q14 :: pt q19 :: pt q22 :: .bool true :: .bool false :: .agg c0 :: arr a :: .agg c1 :: arr b :: arr 0 :: arr 1 :: arr a :: arr 0 :: .bool false :: un :: un :: un :: un :: un :: un :: un :: un :: un :: un :: un :: arr a :: arr a :: arr (invE a) :: arr (mulP a (invE a)) :: arr 1 :: .bool true :: .bool true :: arr a :: arr (invE a) :: arr (invE (invE a)) :: arr a :: .bool true :: .bool true :: .bool true :: arr a :: arr b :: arr (mulP a b) :: arr a :: arr (invE a) :: arr (mulP (mulP a b) (invE a)) :: arr b :: .bool true :: .bool true :: .bool true :: arr a :: arr b :: arr (mulP a b) :: arr 0 :: .bool true :: arr b :: arr 0 :: .bool true :: .bool true :: .bool true :: List.replicate 0 un).toArray, []⟩ (HA w [(q22, 26, el 1), (q19, 26, el 0), (q14, 26, el b), (q13, 26, el a), (q4, 40, c1), (q1, 40, c0)]) [arr a, arr a, arr (invE a), arr (mulP a (invE a)), arr 1, .bool true, .bool true, arr a, arr (invE a), arr (invE (invE a)), arr a, .bool true, .bool true, .bool true, arr a, arr b, arr (mulP a b), arr a, arr (invE a), arr (mulP (mulP a b) (invE a)), arr b, .bool true, .bool true, .bool true, arr a, arr b, arr (mulP a b), arr 0, .bool true, arr b, arr 0, .bool true, .bool true, .bool true, .bool true] (by kernel_rfl) (by kernel_rfl) (by kernel_rfl) (by kernel_rfl) (fun _ _ _ h => h) h30.drew ?_ ?_
  · refine AllSure.cons (OpSure.take (v := arr a) (by kernel_rfl) (by kernel_rfl) (fun _ h => run_load_blk (by kernel_rfl) (h.get 3 rfl) Tryd.underlying26 rfl info26)) ?_
    refine AllSure.cons (OpSure.take (v := arr a) (by kernel_rfl) (by kernel_rfl) (fun _ h => run_load_blk (by kernel_rfl) (h.get 3 rfl) Tryd.underlying26 rfl info26)) ?_
    refine AllSure.cons (sure_call (v := arr (invE a)) (by kernel_rfl) (by kernel_rfl) enter33 HA.keep #[arr a] (by kernel_rfl) (fun w' h' => Inv_any a ha w' (VV.out.below h'.old VV.out.big))) ?_
    refine AllSure.cons (sure_call (v := arr (mulP a (invE a))) (by kernel_rfl) (by kernel_rfl) enter26 HA.keep #[arr a, arr (invE a)] (by kernel_rfl) (fun w' h' => Mul_any a (invE a) ha (invE_lt _) w' (VV.out.below h'.old VV.out.big))) ?_
    refine AllSure.cons (OpSure.take (v := arr 1) (by kernel_rfl) (by kernel_rfl) (fun _ h => run_load_blk (by kernel_rfl) (h.get 0 rfl) Tryd.underlying26 rfl info26)) ?_
    refine AllSure.cons (sure_call (v := .bool true) (by kernel_rfl) (by kernel_rfl) enter30 HA.keep #[arr (mulP a (invE a)), arr 1] (by kernel_rfl) (fun w' h' => Same_yes (mulP a (invE a)) 1 (mulP_lt _ _) (by decide) (mulP_inv a ha hA) w')) ?_
    refine AllSure.cons (OpSure.take (v := .bool true) (by kernel_rfl) (by kernel_rfl) (fun _ _ => (by kernel_rfl))) ?_
    refine AllSure.cons (OpSure.take (v := arr a) (by kernel_rfl) (by kernel_rfl) (fun _ h => run_load_blk (by kernel_rfl) (h.get 3 rfl) Tryd.underlying26 rfl info26)) ?_
    refine AllSure.cons (sure_call (v := arr (invE a)) (by kernel_rfl) (by kernel_rfl) enter33 HA.keep #[arr a] (by kernel_rfl) (fun w' h' => Inv_any a ha w' (VV.out.below h'.old VV.out.big))) ?_
    refine AllSure.cons (sure_call (v := arr (invE (invE a))) (by kernel_rfl) (by kernel_rfl) enter33 HA.keep #[arr (invE a)] (by kernel_rfl) (fun w' h' => Inv_any (invE a) (invE_lt _) w' (VV.out.below h'.old VV.out.big))) ?_
    refine AllSure.cons (OpSure.take (v := arr a) (by kernel_rfl) (by kernel_rfl) (fun _ h => run_load_blk (by kernel_rfl) (h.get 3 rfl) Tryd.underlying26 rfl info26)) ?_
    refine AllSure.cons (sure_call (v := .bool true) (by kernel_rfl) (by kernel_rfl) enter30 HA.keep #[arr (invE (invE a)), arr a] (by kernel_rfl) (fun w' h' => Same_yes (invE (invE a)) a (invE_lt _) ha (inv_inv a ha hA) w')) ?_
    refine AllSure.cons (OpSure.take (v := .bool true) (by kernel_rfl) (by kernel_rfl) (fun _ _ => (by kernel_rfl))) ?_
    refine AllSure.cons (OpSure.take (v := .bool true) (by kernel_rfl) (by kernel_rfl) (fun _ _ => (by kernel_rfl))) ?_
    refine AllSure.cons (OpSure.take (v := arr a) (by kernel_rfl) (by kernel_rfl) (fun _ h => run_load_blk (by kernel_rfl) (h.get 3 rfl) Tryd.underlying26 rfl info26)) ?_
    refine AllSure.cons (OpSure.take (v := arr b) (by kernel_rfl) (by kernel_rfl) (fun _ h => run_load_blk (by kernel_rfl) (h.get 2 rfl) Tryd.underlying26 rfl info26)) ?_
    refine AllSure.cons (sure_call (v := arr (mulP a b)) (by kernel_rfl) (by kernel_rfl) enter26 HA.keep #[arr a, arr b] (by kernel_rfl) (fun w' h' => Mul_any a b ha hb w' (VV.out.below h'.old VV.out.big))) ?_
    refine AllSure.cons (OpSure.take (v := arr a) (by kernel_rfl) (by kernel_rfl) (fun _ h => run_load_blk (by kernel_rfl) (h.get 3 rfl) Tryd.underlying26 rfl info26)) ?_
    refine AllSure.cons (sure_call (v := arr (invE a)) (by kernel_rfl) (by kernel_rfl) enter33 HA.keep #[arr a] (by kernel_rfl) (fun w' h' => Inv_any a ha w' (VV.out.below h'.old VV.out.big))) ?_
    refine AllSure.cons (sure_call (v := arr (mulP (mulP a b) (invE a))) (by kernel_rfl) (by kernel_rfl) enter26 HA.keep #[arr (mulP a b), arr (invE a)] (by kernel_rfl) (fun w' h' => Mul_any (mulP a b) (invE a) (mulP_lt _ _) (invE_lt _) w' (VV.out.below h'.old VV.out.big))) ?_
    refine AllSure.cons (OpSure.take (v := arr b) (by kernel_rfl) (by kernel_rfl) (fun _ h => run_load_blk (by kernel_rfl) (h.get 2 rfl) Tryd.underlying26 rfl info26)) ?_
    refine AllSure.cons (sure_call (v := .bool true) (by kernel_rfl) (by kernel_rfl) enter30 HA.keep #[arr (mulP (mulP a b) (invE a)), arr b] (by kernel_rfl) (fun w' h' => Same_yes (mulP (mulP a b) (invE a)) b (mulP_lt _ _) hb (mul_div a b ha hb hA) w')) ?_
    refine AllSure.cons (OpSure.take (v := .bool true) (by kernel_rfl) (by kernel_rfl) (fun _ _ => (by kernel_rfl))) ?_
    refine AllSure.cons (OpSure.take (v := .bool true) (by kernel_rfl) (by kernel_rfl) (fun _ _ => (by kernel_rfl))) ?_
    refine AllSure.cons (OpSure.take (v := arr a) (by kernel_rfl) (by kernel_rfl) (fun _ h => run_load_blk (by kernel_rfl) (h.get 3 rfl) Tryd.underlying26 rfl info26)) ?_
    refine AllSure.cons (OpSure.take (v := arr b) (by kernel_rfl) (by kernel_rfl) (fun _ h => run_load_blk (by kernel_rfl) (h.get 2 rfl) Tryd.underlying26 rfl info26)) ?_
    refine AllSure.cons (sure_call (v := arr (mulP a b)) (by kernel_rfl) (by kernel_rfl) enter26 HA.keep #[arr a, arr b] (by kernel_rfl) (fun w' h' => Mul_any a b ha hb w' (VV.out.below h'.old VV.out.big))) ?_
    refine AllSure.cons (OpSure.take (v := arr 0) (by kernel_rfl) (by kernel_rfl) (fun _ h => run_load_blk (by kernel_rfl) (h.get 1 rfl) Tryd.underlying26 rfl info26)) ?_
    refine AllSure.cons (sure_call (v := .bool true) (by kernel_rfl) (by kernel_rfl) enter30 HA.keep #[arr (mulP a b), arr 0] (by kernel_rfl) (fun w' h' => Same_yes (mulP a b) 0 (mulP_lt _ _) (by decide) ((mulP_nil a b ha hb).2 (.inr hB)) w')) ?_
    refine AllSure.cons (OpSure.take (v := arr b) (by kernel_rfl) (by kernel_rfl) (fun _ h => run_load_blk (by kernel_rfl) (h.get 2 rfl) Tryd.underlying26 rfl info26)) ?_
    refine AllSure.cons (OpSure.take (v := arr 0) (by kernel_rfl) (by kernel_rfl) (fun _ h => run_load_blk (by kernel_rfl) (h.get 1 rfl) Tryd.underlying26 rfl info26)) ?_
    refine AllSure.cons (sure_call (v := .bool true) (by kernel_rfl) (by kernel_rfl) enter30 HA.keep #[arr b, arr 0] (by kernel_rfl) (fun w' h' => Same_yes b 0 hb (by decide) hB w')) ?_
    refine AllSure.cons (OpSure.take (v := .bool true) (by kernel_rfl) (by kernel_rfl) (fun _ _ => (run_eqb true true (by kernel_rfl) (by kernel_rfl)))) ?_
    refine AllSure.cons (OpSure.take (v := .bool true) (by kernel_rfl) (by kernel_rfl) (fun _ _ => (by kernel_rfl))) ?_
    refine AllSure.cons (OpSure.take (v := .bool true) (by kernel_rfl) (by kernel_rfl) (fun _ _ => (by kernel_rfl))) ?_
    exact AllSure.nil
  intro w31 h32
  refine then_at (F := ⟨(.agg c0 :: .agg c1 :: pt q1 :: pt q4 :: .bool true :: pt q13 :: pt q14 :: pt q19 :: pt q22 :: .bool true :: .bool false :: .agg c0 :: arr a :: .agg c1 :: arr b :: arr 0 :: arr 1 :: arr a :: arr 0 :: .bool false :: un :: un :: un :: un :: un :: un :: un :: un :: un :: un :: un :: arr a :: arr a :: arr (invE a) :: arr (mulP a (invE a)) :: arr 1 :: .bool true :: .bool true :: arr a :: arr (invE a) :: arr (invE (invE a)) :: arr a :: .bool true :: .bool true :: .bool true :: arr a :: arr b :: arr (mulP a b) :: arr a :: arr (invE a) :: arr (mulP (mulP a b) (invE a)) :: arr b :: .bool true :: .bool true :: .bool true :: arr a :: arr b :: arr (mulP a b) :: arr 0 :: .bool true :: arr b :: arr 0 :: .bool true :: .bool true :: .bool true :: List.replicate 0 un).toArray, []⟩) (by kernel_rfl) ?_
  refine wp_ret ?_
  repeat first | refine then_ret ?_ | refine block_ret ?_
  exact bodyPost_ret (v := .bool true) (by kernel_rfl) rfl ⟨rfl, h32.old⟩
set_option linter.unusedVariables false in
set_option maxRecDepth 100000 in
set_option maxHeartbeats 4000000 in
theorem div3 (c0 c1 : Array Value) (a b : Nat) (hz0 : c0.size = 32) (hz1 : c1.size = 32) (ha : a < P) (hb : b < P) (hA : a ≠ 0) (hB : b ≠ 0)
    (KA : ∀ w, Vars w → Calls Tryd.prog 20 #[.agg c0] w fun e w' => e = .returned (arr a) ∧ Below w.heap.size w w')
    (KB : ∀ w, Vars w → Calls Tryd.prog 20 #[.agg c1] w fun e w' => e = .returned (arr b) ∧ Below w.heap.size w w') (w : World) (V : Vars w) :
    Calls Tryd.prog 7 #[.agg c0, .agg c1] w fun e w' => e = .returned (.bool true) ∧ Below w.heap.size w w' := by
  have VV := hide V
  have H0 := HA.start w
  clear V
  go_enter Tryd.func7, Tryd.ntmps7
  refine wp_seq ?_
  -- region 0
  refine wl_region ?_
  refine wl_make H0 40 (by kernel_rfl) (run_box40 (c := c0) (by kernel_rfl)) ?_
  intro q1 w2 h3
  refine wl_make h3 40 (by kernel_rfl) (run_box40 (c := c1) (by kernel_rfl)) ?_
  intro q4 w5 h6
  refine wl_val (.bool false) (by kernel_rfl) (by kernel_rfl) ?_
  refine wl_nil ?_
  refine then_at (F := ⟨(.agg c0 :: .agg c1 :: pt q1 :: pt q4 :: .bool false :: List.replicate 60 un).toArray, []⟩) (by kernel_rfl) ?_
  refine wp_seq ?_
  refine wp_seq ?_
  -- region 1
  refine wl_region ?_
  refine wl_call (v := .bool true) h6 (by kernel_rfl) enter19 #[] (by kernel_rfl) (works_any w5 (VV.out.below h6.old VV.out.big)) ?_
  intro w7 h8
  refine wl_val (.bool false) (by kernel_rfl) (by kernel_rfl) ?_
  refine wl_nil ?_
  refine then_at (F := ⟨(.agg c0 :: .agg c1 :: pt q1 :: pt q4 :: .bool false :: un :: un :: un :: un :: .bool true :: .bool false :: List.replicate 54 un).toArray, []⟩) (by kernel_rfl) ?_
  refine wp_cond_false (by kernel_rfl) ?_
  refine wp_skip ?_
  refine then_at (F := ⟨(.agg c0 :: .agg c1 :: pt q1 :: pt q4 :: .bool false :: un :: un :: un :: un :: .bool true :: .bool false :: List.replicate 54 un).toArray, []⟩) (by kernel_rfl) ?_
  refine wp_seq ?_
  -- region 3
  obtain ⟨B9, eB9⟩ : ∃ B, B = w7.heap.size := ⟨_, rfl⟩
  refine wp_region_ghost (fun g : Nat → Nat => (⟨(.agg c0 :: .agg c1 :: pt q1 :: pt q4 :: .bool false :: pt (g 4) :: pt (g 5) :: un :: un :: .bool true :: .bool false :: .agg c0 :: arr a :: .agg c1 :: arr b :: List.replicate 50 un).toArray, []⟩ : Act)) (GS w [(q4, 40, c1), (q1, 40, c0)] B9 2 4 6 26 (el 0) (fun j => el ([a, b].getD j a))) [.agg c0, arr a, .agg c1, arr b, .pointer (some ⟨0, 0, none⟩), .pointer (some ⟨0, 0, none⟩), undef, undef] (by kernel_rfl) (by kernel_rfl) (by kernel_rfl) (by kernel_rfl) (fun _ _ _ _ h => h) (fun d hd => GS.start h8.drew eB9 (by decide) (fun _ _ => rfl) (fun j hj => hd j (Nat.lt_of_lt_of_le hj (by decide)))) ?_ ?_
  · refine AllGhost.cons (ghost_load 1 rfl (by decide) (fun _ => by kernel_rfl) (fun _ => by kernel_rfl) (fun _ => by kernel_rfl) Tryd.underlying40 rfl (by first | (show _ = some c0.size; rw [hz0]; exact info40) | (show _ = some c1.size; rw [hz1]; exact info40))) ?_
    refine AllGhost.cons (ghost_call (v := arr a) (by decide) (fun _ => by kernel_rfl) (fun _ => by kernel_rfl) enter20 #[.agg c0] (fun _ => by kernel_rfl) (fun w' h' => KA w' (VV.out.below h'.old VV.out.big))) ?_
    refine AllGhost.cons (ghost_load 0 rfl (by decide) (fun _ => by kernel_rfl) (fun _ => by kernel_rfl) (fun _ => by kernel_rfl) Tryd.underlying40 rfl (by first | (show _ = some c0.size; rw [hz0]; exact info40) | (show _ = some c1.size; rw [hz1]; exact info40))) ?_
    refine AllGhost.cons (ghost_call (v := arr b) (by decide) (fun _ => by kernel_rfl) (fun _ => by kernel_rfl) enter20 #[.agg c1] (fun _ => by kernel_rfl) (fun w' h' => KB w' (VV.out.below h'.old VV.out.big))) ?_
    refine AllGhost.cons (ghost_make 0 (by decide) rfl (fun _ => by kernel_rfl) (fun _ _ => by kernel_rfl) (fun _ _ => run_alloc26)) ?_
    refine AllGhost.cons (ghost_make 1 (by decide) rfl (fun _ => by kernel_rfl) (fun _ _ => by kernel_rfl) (fun _ _ => run_alloc26)) ?_
    refine AllGhost.cons (ghost_fill 0 (by decide) rfl (fun _ => by kernel_rfl) (fun _ => by kernel_rfl) (fun _ => by kernel_rfl) (fun _ => by kernel_rfl) info26 (one_el _) (by kernel_rfl)) ?_
    refine AllGhost.cons (ghost_fill 1 (by decide) rfl (fun _ => by kernel_rfl) (fun _ => by kernel_rfl) (fun _ => by kernel_rfl) (fun _ => by kernel_rfl) info26 (one_el _) (by kernel_rfl)) ?_
    exact AllGhost.nil
  intro g w10 g11
  have h12 : HA w [(g 5, 26, el b), (g 4, 26, el a), (q4, 40, c1), (q1, 40, c0)] w10 := g11.two
  clear g11 eB9
  generalize g 4 = q13 at h12 ⊢
  generalize g 5 = q14 at h12 ⊢
  clear g
  refine then_at (F := ⟨(.agg c0 :: .agg c1 :: pt q1 :: pt q4 :: .bool false :: pt q13 :: pt q14 :: un :: un :: .bool true :: .bool false :: .agg c0 :: arr a :: .agg c1 :: arr b :: List.replicate 50 un).toArray, []⟩) (by kernel_rfl) ?_
  refine wp_seq ?_
  -- region 4
  refine wl_region ?_
  refine wl_call (v := arr 0) h12 (by kernel_rfl) enter17 #[iN .u32 0] (by kernel_rfl) (Small_any 0 (by decide) w10) ?_
  intro w15 h16
  refine wl_call (v := arr 1) h16 (by kernel_rfl) enter17 #[iN .u32 1] (by kernel_rfl) (Small_any 1 (by decide) w15) ?_
  intro w17 h18
  refine wl_make h18 26 (by kernel_rfl) run_alloc26 ?_
  intro q19 w20 h21
  refine wl_make h21 26 (by kernel_rfl) run_alloc26 ?_
  intro q22 w23 h24
  refine wl_fill (c' := el 0) h24 1 rfl (by kernel_rfl) (by kernel_rfl) (by kernel_rfl) rfl info26 (one_el _) ?_
  intro w25 (h26 : HA w [(q22, 26, el 0), (q19, 26, el 0), (q14, 26, el b), (q13, 26, el a), (q4, 40, c1), (q1, 40, c0)] w25)
  refine wl_fill (c' := el 1) h26 0 rfl (by kernel_rfl) (by kernel_rfl) (by kernel_rfl) rfl info26 (one_el _) ?_
  intro w27 (h28 : HA w [(q22, 26, el 1), (q19, 26, el 0), (q14, 26, el b), (q13, 26, el a), (q4, 40, c1), (q1, 40, c0)] w27)
  refine wl_nil ?_
  refine then_at (F := ⟨(.agg c0 :: .agg c1 :: pt q1 :: pt q4 :: .bool false :: pt q13 :: pt q14 :: pt q19 :: pt q22 :: .bool true :: .bool false :: .agg c0 :: arr a :: .agg c1 :: arr b :: arr 0 :: arr 1 :: List.replicate 48 un).toArray, []⟩) (by kernel_rfl) ?_
  refine wp_seq ?_
  refine wp_seq ?_
  -- region 5
  refine wl_region ?_
  refine wl_load h28 3 rfl (by kernel_rfl) (by kernel_rfl) Tryd.underlying26 rfl info26 ?_
  refine wl_load h28 1 rfl (by kernel_rfl) (by kernel_rfl) Tryd.underlying26 rfl info26 ?_
  refine wl_call (v := .bool false) h28 (by kernel_rfl) enter30 #[arr a, arr 0] (by kernel_rfl) (Same_no a 0 ha (by decide) hA w27) ?_
  intro w29 h30
  refine wl_nil ?_
  refine then_at (F := ⟨(.agg c0 :: .agg c1 :: pt q1 :: pt q4 :: .bool false :: pt q13 :: pt q14 :: pt q19 :: pt q22 :: .bool true :: .bool false :: .agg c0 :: arr a :: .agg c1 :: arr b :: arr 0 :: arr 1 :: arr a :: arr 0 :: .bool false :: List.replicate 45 un).toArray, []⟩) (by kernel_rfl) ?_
  refine wp_cond_false (by kernel_rfl) ?_
  refine wp_skip ?_
  refine then_at (F := ⟨(.agg c0 :: .agg c1 :: pt q1 :: pt q4 :: .bool false :: pt q13 :: pt q14 :: pt q19 :: pt q22 :: .bool true :: .bool false :: .agg c0 :: arr a :: .agg c1 :: arr b :: arr 0 :: arr 1 :: arr a :: arr 0 :: .bool false :: List.replicate 45 un).toArray, []⟩) (by kernel_rfl) ?_
  refine wp_seq ?_
  -- region 7
  refine wp_region_sure ⟨(.agg c0 :: .agg c1 :: pt q1 :: pt q4 :: .bool true :: pt q13 :: pt q14 :: pt q19 :: pt q22 :: .bool true :: .bool false :: .agg c0 :: arr a :: .agg c1 :: arr b :: arr 0 :: arr 1 :: arr a :: arr 0 :: .bool false :: un :: un :: un :: un :: un :: un :: un :: un :: un :: un :: un :: arr a :: arr a :: arr (invE a) :: arr (mulP a (invE a)) :: arr 1 :: .bool true :: .bool true :: arr a :: arr (invE a) :: arr (invE (invE a)) :: arr a :: .bool true :: .bool true :: .bool true :: arr a :: arr b :: arr (mulP a b) :: arr a :: arr (invE a) :: arr (mulP (mulP a b) (invE a)) :: arr b :: .bool true :: .bool true :: .bool true :: arr a :: arr b :: arr (mulP a b) :: arr 0 :: .bool false :: arr b :: arr 0 :: .bool false :: .bool true :: .bool true :: List.replicate 0 un).toArray, []⟩ (HA w [(q22, 26, el 1), (q19, 26, el 0), (q14, 26, el b), (q13, 26, el a), (q4, 40, c1), (q1, 40, c0)]) [arr a, arr a, arr (invE a), arr (mulP a (invE a)), arr 1, .bool true, .bool true, arr a, arr (invE a), arr (invE (invE a)), arr a, .bool true, .bool true, .bool true, arr a, arr b, arr (mulP a b), arr a, arr (invE a), arr (mulP (mulP a b) (invE a)), arr b, .bool true, .bool true, .bool true, arr a, arr b, arr (mulP a b), arr 0, .bool false, arr b, arr 0, .bool false, .bool true, .bool true, .bool true] (by kernel_rfl) (by kernel_rfl) (by kernel_rfl) (by kernel_rfl) (fun _ _ _ h => h) h30.drew ?_ ?_
  · refine AllSure.cons (OpSure.take (v := arr a) (by kernel_rfl) (by kernel_rfl) (fun _ h => run_load_blk (by kernel_rfl) (h.get 3 rfl) Tryd.underlying26 rfl info26)) ?_
    refine AllSure.cons (OpSure.take (v := arr a) (by kernel_rfl) (by kernel_rfl) (fun _ h => run_load_blk (by kernel_rfl) (h.get 3 rfl) Tryd.underlying26 rfl info26)) ?_
    refine AllSure.cons (sure_call (v := arr (invE a)) (by kernel_rfl) (by kernel_rfl) enter33 HA.keep #[arr a] (by kernel_rfl) (fun w' h' => Inv_any a ha w' (VV.out.below h'.old VV.out.big))) ?_
    refine AllSure.cons (sure_call (v := arr (mulP a (invE a))) (by kernel_rfl) (by kernel_rfl) enter26 HA.keep #[arr a, arr (invE a)] (by kernel_rfl) (fun w' h' => Mul_any a (invE a) ha (invE_lt _) w' (VV.out.below h'.old VV.out.big))) ?_
    refine AllSure.cons (OpSure.take (v := arr 1) (by kernel_rfl) (by kernel_rfl) (fun _ h => run_load_blk (by kernel_rfl) (h.get 0 rfl) Tryd.underlying26 rfl info26)) ?_
    refine AllSure.cons (sure_call (v := .bool true) (by kernel_rfl) (by kernel_rfl) enter30 HA.keep #[arr (mulP a (invE a)), arr 1] (by kernel_rfl) (fun w' h' => Same_yes (mulP a (invE a)) 1 (mulP_lt _ _) (by decide) (mulP_inv a ha hA) w')) ?_
    refine AllSure.cons (OpSure.take (v := .bool true) (by kernel_rfl) (by kernel_rfl) (fun _ _ => (by kernel_rfl))) ?_
    refine AllSure.cons (OpSure.take (v := arr a) (by kernel_rfl) (by kernel_rfl) (fun _ h => run_load_blk (by kernel_rfl) (h.get 3 rfl) Tryd.underlying26 rfl info26)) ?_
    refine AllSure.cons (sure_call (v := arr (invE a)) (by kernel_rfl) (by kernel_rfl) enter33 HA.keep #[arr a] (by kernel_rfl) (fun w' h' => Inv_any a ha w' (VV.out.below h'.old VV.out.big))) ?_
    refine AllSure.cons (sure_call (v := arr (invE (invE a))) (by kernel_rfl) (by kernel_rfl) enter33 HA.keep #[arr (invE a)] (by kernel_rfl) (fun w' h' => Inv_any (invE a) (invE_lt _) w' (VV.out.below h'.old VV.out.big))) ?_
    refine AllSure.cons (OpSure.take (v := arr a) (by kernel_rfl) (by kernel_rfl) (fun _ h => run_load_blk (by kernel_rfl) (h.get 3 rfl) Tryd.underlying26 rfl info26)) ?_
    refine AllSure.cons (sure_call (v := .bool true) (by kernel_rfl) (by kernel_rfl) enter30 HA.keep #[arr (invE (invE a)), arr a] (by kernel_rfl) (fun w' h' => Same_yes (invE (invE a)) a (invE_lt _) ha (inv_inv a ha hA) w')) ?_
    refine AllSure.cons (OpSure.take (v := .bool true) (by kernel_rfl) (by kernel_rfl) (fun _ _ => (by kernel_rfl))) ?_
    refine AllSure.cons (OpSure.take (v := .bool true) (by kernel_rfl) (by kernel_rfl) (fun _ _ => (by kernel_rfl))) ?_
    refine AllSure.cons (OpSure.take (v := arr a) (by kernel_rfl) (by kernel_rfl) (fun _ h => run_load_blk (by kernel_rfl) (h.get 3 rfl) Tryd.underlying26 rfl info26)) ?_
    refine AllSure.cons (OpSure.take (v := arr b) (by kernel_rfl) (by kernel_rfl) (fun _ h => run_load_blk (by kernel_rfl) (h.get 2 rfl) Tryd.underlying26 rfl info26)) ?_
    refine AllSure.cons (sure_call (v := arr (mulP a b)) (by kernel_rfl) (by kernel_rfl) enter26 HA.keep #[arr a, arr b] (by kernel_rfl) (fun w' h' => Mul_any a b ha hb w' (VV.out.below h'.old VV.out.big))) ?_
    refine AllSure.cons (OpSure.take (v := arr a) (by kernel_rfl) (by kernel_rfl) (fun _ h => run_load_blk (by kernel_rfl) (h.get 3 rfl) Tryd.underlying26 rfl info26)) ?_
    refine AllSure.cons (sure_call (v := arr (invE a)) (by kernel_rfl) (by kernel_rfl) enter33 HA.keep #[arr a] (by kernel_rfl) (fun w' h' => Inv_any a ha w' (VV.out.below h'.old VV.out.big))) ?_
    refine AllSure.cons (sure_call (v := arr (mulP (mulP a b) (invE a))) (by kernel_rfl) (by kernel_rfl) enter26 HA.keep #[arr (mulP a b), arr (invE a)] (by kernel_rfl) (fun w' h' => Mul_any (mulP a b) (invE a) (mulP_lt _ _) (invE_lt _) w' (VV.out.below h'.old VV.out.big))) ?_
    refine AllSure.cons (OpSure.take (v := arr b) (by kernel_rfl) (by kernel_rfl) (fun _ h => run_load_blk (by kernel_rfl) (h.get 2 rfl) Tryd.underlying26 rfl info26)) ?_
    refine AllSure.cons (sure_call (v := .bool true) (by kernel_rfl) (by kernel_rfl) enter30 HA.keep #[arr (mulP (mulP a b) (invE a)), arr b] (by kernel_rfl) (fun w' h' => Same_yes (mulP (mulP a b) (invE a)) b (mulP_lt _ _) hb (mul_div a b ha hb hA) w')) ?_
    refine AllSure.cons (OpSure.take (v := .bool true) (by kernel_rfl) (by kernel_rfl) (fun _ _ => (by kernel_rfl))) ?_
    refine AllSure.cons (OpSure.take (v := .bool true) (by kernel_rfl) (by kernel_rfl) (fun _ _ => (by kernel_rfl))) ?_
    refine AllSure.cons (OpSure.take (v := arr a) (by kernel_rfl) (by kernel_rfl) (fun _ h => run_load_blk (by kernel_rfl) (h.get 3 rfl) Tryd.underlying26 rfl info26)) ?_
    refine AllSure.cons (OpSure.take (v := arr b) (by kernel_rfl) (by kernel_rfl) (fun _ h => run_load_blk (by kernel_rfl) (h.get 2 rfl) Tryd.underlying26 rfl info26)) ?_
    refine AllSure.cons (sure_call (v := arr (mulP a b)) (by kernel_rfl) (by kernel_rfl) enter26 HA.keep #[arr a, arr b] (by kernel_rfl) (fun w' h' => Mul_any a b ha hb w' (VV.out.below h'.old VV.out.big))) ?_
    refine AllSure.cons (OpSure.take (v := arr 0) (by kernel_rfl) (by kernel_rfl) (fun _ h => run_load_blk (by kernel_rfl) (h.get 1 rfl) Tryd.underlying26 rfl info26)) ?_
    refine AllSure.cons (sure_call (v := .bool false) (by kernel_rfl) (by kernel_rfl) enter30 HA.keep #[arr (mulP a b), arr 0] (by kernel_rfl) (fun w' h' => Same_no (mulP a b) 0 (mulP_lt _ _) (by decide) (fun e => ((mulP_nil a b ha hb).1 e).elim hA hB) w')) ?_
    refine AllSure.cons (OpSure.take (v := arr b) (by kernel_rfl) (by kernel_rfl) (fun _ h => run_load_blk (by kernel_rfl) (h.get 2 rfl) Tryd.underlying26 rfl info26)) ?_
    refine AllSure.cons (OpSure.take (v := arr 0) (by kernel_rfl) (by kernel_rfl) (fun _ h => run_load_blk (by kernel_rfl) (h.get 1 rfl) Tryd.underlying26 rfl info26)) ?_
    refine AllSure.cons (sure_call (v := .bool false) (by kernel_rfl) (by kernel_rfl) enter30 HA.keep #[arr b, arr 0] (by kernel_rfl) (fun w' h' => Same_no b 0 hb (by decide) hB w')) ?_
    refine AllSure.cons (OpSure.take (v := .bool true) (by kernel_rfl) (by kernel_rfl) (fun _ _ => (run_eqb false false (by kernel_rfl) (by kernel_rfl)))) ?_
    refine AllSure.cons (OpSure.take (v := .bool true) (by kernel_rfl) (by kernel_rfl) (fun _ _ => (by kernel_rfl))) ?_
    refine AllSure.cons (OpSure.take (v := .bool true) (by kernel_rfl) (by kernel_rfl) (fun _ _ => (by kernel_rfl))) ?_
    exact AllSure.nil
  intro w31 h32
  refine then_at (F := ⟨(.agg c0 :: .agg c1 :: pt q1 :: pt q4 :: .bool true :: pt q13 :: pt q14 :: pt q19 :: pt q22 :: .bool true :: .bool false :: .agg c0 :: arr a :: .agg c1 :: arr b :: arr 0 :: arr 1 :: arr a :: arr 0 :: .bool false :: un :: un :: un :: un :: un :: un :: un :: un :: un :: un :: un :: arr a :: arr a :: arr (invE a) :: arr (mulP a (invE a)) :: arr 1 :: .bool true :: .bool true :: arr a :: arr (invE a) :: arr (invE (invE a)) :: arr a :: .bool true :: .bool true :: .bool true :: arr a :: arr b :: arr (mulP a b) :: arr a :: arr (invE a) :: arr (mulP (mulP a b) (invE a)) :: arr b :: .bool true :: .bool true :: .bool true :: arr a :: arr b :: arr (mulP a b) :: arr 0 :: .bool false :: arr b :: arr 0 :: .bool false :: .bool true :: .bool true :: List.replicate 0 un).toArray, []⟩) (by kernel_rfl) ?_
  refine wp_ret ?_
  repeat first | refine then_ret ?_ | refine block_ret ?_
  exact bodyPost_ret (v := .bool true) (by kernel_rfl) rfl ⟨rfl, h32.old⟩
theorem FieldDivides_any (l m : List UInt8) (hl : l.length = 32) (hm : m.length = 32) (w : World) (V : Vars w) :
    Calls Tryd.prog 7 #[.agg (cs l).toArray, .agg (cs m).toArray] w fun e w' => e = .returned (.bool true) ∧ Below w.heap.size w w' := by
  have z0 : (cs l).toArray.size = 32 := by simp [cs, hl]
  have z1 : (cs m).toArray.size = 32 := by simp [cs, hm]
  have KA := fun w V => any1_any l hl w V
  have KB := fun w V => any1_any m hm w V
  by_cases hA : anyP l = 0
  · rw [hA] at KA
    exact div1 _ _ _ z0 z1 (anyP_lt m) KA KB w V
  · by_cases hB : anyP m = 0
    · exact div2 _ _ _ _ z0 z1 (anyP_lt l) (anyP_lt m) hA hB KA KB w V
    · exact div3 _ _ _ _ z0 z1 (anyP_lt l) (anyP_lt m) hA hB KA KB w V
end Go.Proofs.YtbmfmamhidccbaaDoor
