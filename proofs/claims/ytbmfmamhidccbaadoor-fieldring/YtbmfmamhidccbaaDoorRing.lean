/-
  FieldRing: the walk.
-/
import Derived.Test.YtbmfmamhidccbaaDoorLaw
namespace Go.Proofs.YtbmfmamhidccbaaDoor
open Go.RowKit Num

set_option linter.unusedVariables false in
set_option maxRecDepth 100000 in
set_option maxHeartbeats 4000000 in
theorem ring_walk (c0 c1 c2 : Array Value) (a b c : Nat) (hz0 : c0.size = 32) (hz1 : c1.size = 32) (hz2 : c2.size = 32) (ha : a < P) (hb : b < P) (hc : c < P)
    (KA : ∀ w, Vars w → Calls Tryd.prog 20 #[.agg c0] w fun e w' => e = .returned (arr a) ∧ Below w.heap.size w w')
    (KB : ∀ w, Vars w → Calls Tryd.prog 20 #[.agg c1] w fun e w' => e = .returned (arr b) ∧ Below w.heap.size w w')
    (KC : ∀ w, Vars w → Calls Tryd.prog 20 #[.agg c2] w fun e w' => e = .returned (arr c) ∧ Below w.heap.size w w') (w : World) (V : Vars w) :
    Calls Tryd.prog 6 #[.agg c0, .agg c1, .agg c2] w fun e w' => e = .returned (.bool true) ∧ Below w.heap.size w w' := by
  have VV := hide V
  have H0 := HA.start w
  clear V
  go_enter Tryd.func6, Tryd.ntmps6
  refine wp_seq ?_
  -- region 0
  refine wl_region ?_
  refine wl_make H0 40 (by kernel_rfl) (run_box40 (c := c0) (by kernel_rfl)) ?_
  intro q1 w2 h3
  refine wl_make h3 40 (by kernel_rfl) (run_box40 (c := c1) (by kernel_rfl)) ?_
  intro q4 w5 h6
  refine wl_make h6 40 (by kernel_rfl) (run_box40 (c := c2) (by kernel_rfl)) ?_
  intro q7 w8 h9
  refine wl_val (.bool false) (by kernel_rfl) (by kernel_rfl) ?_
  refine wl_nil ?_
  refine then_at (F := ⟨(.agg c0 :: .agg c1 :: .agg c2 :: pt q1 :: pt q4 :: pt q7 :: .bool false :: List.replicate 102 un).toArray, []⟩) (by kernel_rfl) ?_
  refine wp_seq ?_
  refine wp_seq ?_
  -- region 1
  refine wl_region ?_
  refine wl_call (v := .bool true) h9 (by kernel_rfl) enter19 #[] (by kernel_rfl) (works_any w8 (VV.out.below h9.old VV.out.big)) ?_
  intro w10 h11
  refine wl_val (.bool false) (by kernel_rfl) (by kernel_rfl) ?_
  refine wl_nil ?_
  refine then_at (F := ⟨(.agg c0 :: .agg c1 :: .agg c2 :: pt q1 :: pt q4 :: pt q7 :: .bool false :: un :: un :: un :: .bool true :: .bool false :: List.replicate 97 un).toArray, []⟩) (by kernel_rfl) ?_
  refine wp_cond_false (by kernel_rfl) ?_
  refine wp_skip ?_
  refine then_at (F := ⟨(.agg c0 :: .agg c1 :: .agg c2 :: pt q1 :: pt q4 :: pt q7 :: .bool false :: un :: un :: un :: .bool true :: .bool false :: List.replicate 97 un).toArray, []⟩) (by kernel_rfl) ?_
  refine wp_seq ?_
  -- region 3
  obtain ⟨B12, eB12⟩ : ∃ B, B = w10.heap.size := ⟨_, rfl⟩
  refine wp_region_ghost (fun g : Nat → Nat => (⟨(.agg c0 :: .agg c1 :: .agg c2 :: pt q1 :: pt q4 :: pt q7 :: .bool false :: pt (g 6) :: pt (g 7) :: pt (g 8) :: .bool true :: .bool false :: .agg c0 :: arr a :: .agg c1 :: arr b :: .agg c2 :: arr c :: List.replicate 91 un).toArray, []⟩ : Act)) (GS w [(q7, 40, c2), (q4, 40, c1), (q1, 40, c0)] B12 3 6 9 26 (el 0) (fun j => el ([a, b, c].getD j a))) [.agg c0, arr a, .agg c1, arr b, .agg c2, arr c, .pointer (some ⟨0, 0, none⟩), .pointer (some ⟨0, 0, none⟩), .pointer (some ⟨0, 0, none⟩), undef, undef, undef] (by kernel_rfl) (by kernel_rfl) (by kernel_rfl) (by kernel_rfl) (fun _ _ _ _ h => h) (fun d hd => GS.start h11.drew eB12 (by decide) (fun _ _ => rfl) (fun j hj => hd j (Nat.lt_of_lt_of_le hj (by decide)))) ?_ ?_
  · refine AllGhost.cons (ghost_load 2 rfl (by decide) (fun _ => by kernel_rfl) (fun _ => by kernel_rfl) (fun _ => by kernel_rfl) Tryd.underlying40 rfl (by first | (show _ = some c0.size; rw [hz0]; exact info40) | (show _ = some c1.size; rw [hz1]; exact info40) | (show _ = some c2.size; rw [hz2]; exact info40))) ?_
    refine AllGhost.cons (ghost_call (v := arr a) (by decide) (fun _ => by kernel_rfl) (fun _ => by kernel_rfl) enter20 #[.agg c0] (fun _ => by kernel_rfl) (fun w' h' => KA w' (VV.out.below h'.old VV.out.big))) ?_
    refine AllGhost.cons (ghost_load 1 rfl (by decide) (fun _ => by kernel_rfl) (fun _ => by kernel_rfl) (fun _ => by kernel_rfl) Tryd.underlying40 rfl (by first | (show _ = some c0.size; rw [hz0]; exact info40) | (show _ = some c1.size; rw [hz1]; exact info40) | (show _ = some c2.size; rw [hz2]; exact info40))) ?_
    refine AllGhost.cons (ghost_call (v := arr b) (by decide) (fun _ => by kernel_rfl) (fun _ => by kernel_rfl) enter20 #[.agg c1] (fun _ => by kernel_rfl) (fun w' h' => KB w' (VV.out.below h'.old VV.out.big))) ?_
    refine AllGhost.cons (ghost_load 0 rfl (by decide) (fun _ => by kernel_rfl) (fun _ => by kernel_rfl) (fun _ => by kernel_rfl) Tryd.underlying40 rfl (by first | (show _ = some c0.size; rw [hz0]; exact info40) | (show _ = some c1.size; rw [hz1]; exact info40) | (show _ = some c2.size; rw [hz2]; exact info40))) ?_
    refine AllGhost.cons (ghost_call (v := arr c) (by decide) (fun _ => by kernel_rfl) (fun _ => by kernel_rfl) enter20 #[.agg c2] (fun _ => by kernel_rfl) (fun w' h' => KC w' (VV.out.below h'.old VV.out.big))) ?_
    refine AllGhost.cons (ghost_make 0 (by decide) rfl (fun _ => by kernel_rfl) (fun _ _ => by kernel_rfl) (fun _ _ => run_alloc26)) ?_
    refine AllGhost.cons (ghost_make 1 (by decide) rfl (fun _ => by kernel_rfl) (fun _ _ => by kernel_rfl) (fun _ _ => run_alloc26)) ?_
    refine AllGhost.cons (ghost_make 2 (by decide) rfl (fun _ => by kernel_rfl) (fun _ _ => by kernel_rfl) (fun _ _ => run_alloc26)) ?_
    refine AllGhost.cons (ghost_fill 0 (by decide) rfl (fun _ => by kernel_rfl) (fun _ => by kernel_rfl) (fun _ => by kernel_rfl) (fun _ => by kernel_rfl) info26 (one_el _) (by kernel_rfl)) ?_
    refine AllGhost.cons (ghost_fill 1 (by decide) rfl (fun _ => by kernel_rfl) (fun _ => by kernel_rfl) (fun _ => by kernel_rfl) (fun _ => by kernel_rfl) info26 (one_el _) (by kernel_rfl)) ?_
    refine AllGhost.cons (ghost_fill 2 (by decide) rfl (fun _ => by kernel_rfl) (fun _ => by kernel_rfl) (fun _ => by kernel_rfl) (fun _ => by kernel_rfl) info26 (one_el _) (by kernel_rfl)) ?_
    exact AllGhost.nil
  intro g w13 g14
  have h15 : HA w [(g 8, 26, el c), (g 7, 26, el b), (g 6, 26, el a), (q7, 40, c2), (q4, 40, c1), (q1, 40, c0)] w13 := g14.three
  clear g14 eB12
  generalize g 6 = q16 at h15 ⊢
  generalize g 7 = q17 at h15 ⊢
  generalize g 8 = q18 at h15 ⊢
  clear g
  refine then_at (F := ⟨(.agg c0 :: .agg c1 :: .agg c2 :: pt q1 :: pt q4 :: pt q7 :: .bool false :: pt q16 :: pt q17 :: pt q18 :: .bool true :: .bool false :: .agg c0 :: arr a :: .agg c1 :: arr b :: .agg c2 :: arr c :: List.replicate 91 un).toArray, []⟩) (by kernel_rfl) ?_
  refine wp_seq ?_
  -- region 4
  refine wp_region_sure ⟨(.agg c0 :: .agg c1 :: .agg c2 :: pt q1 :: pt q4 :: pt q7 :: .bool true :: pt q16 :: pt q17 :: pt q18 :: .bool true :: .bool false :: .agg c0 :: arr a :: .agg c1 :: arr b :: .agg c2 :: arr c :: arr a :: arr b :: arr (addP a b) :: arr b :: arr a :: arr (addP b a) :: .bool true :: .bool true :: arr a :: arr b :: arr (mulP a b) :: arr b :: arr a :: arr (mulP b a) :: .bool true :: .bool true :: .bool true :: arr a :: arr b :: arr (addP a b) :: arr c :: arr (addP (addP a b) c) :: arr a :: arr b :: arr c :: arr (addP b c) :: arr (addP a (addP b c)) :: .bool true :: .bool true :: .bool true :: arr a :: arr b :: arr (mulP a b) :: arr c :: arr (mulP (mulP a b) c) :: arr a :: arr b :: arr c :: arr (mulP b c) :: arr (mulP a (mulP b c)) :: .bool true :: .bool true :: .bool true :: arr a :: arr b :: arr (addP a b) :: arr c :: arr (mulP (addP a b) c) :: arr a :: arr c :: arr (mulP a c) :: arr b :: arr c :: arr (mulP b c) :: arr (addP (mulP a c) (mulP b c)) :: .bool true :: .bool true :: .bool true :: arr a :: arr b :: arr (subP a b) :: arr b :: arr (addP (subP a b) b) :: arr a :: .bool true :: .bool true :: .bool true :: arr a :: arr a :: arr (negP a) :: arr (addP a (negP a)) :: arr 0 :: .bool true :: .bool true :: .bool true :: arr a :: arr 1 :: arr (mulP a 1) :: arr a :: .bool true :: .bool true :: .bool true :: arr a :: arr b :: arr (subP a b) :: arr b :: arr a :: arr (subP b a) :: arr (negP (subP b a)) :: .bool true :: .bool true :: List.replicate 0 un).toArray, []⟩ (HA w [(q18, 26, el c), (q17, 26, el b), (q16, 26, el a), (q7, 40, c2), (q4, 40, c1), (q1, 40, c0)]) [arr a, arr b, arr (addP a b), arr b, arr a, arr (addP b a), .bool true, .bool true, arr a, arr b, arr (mulP a b), arr b, arr a, arr (mulP b a), .bool true, .bool true, .bool true, arr a, arr b, arr (addP a b), arr c, arr (addP (addP a b) c), arr a, arr b, arr c, arr (addP b c), arr (addP a (addP b c)), .bool true, .bool true, .bool true, arr a, arr b, arr (mulP a b), arr c, arr (mulP (mulP a b) c), arr a, arr b, arr c, arr (mulP b c), arr (mulP a (mulP b c)), .bool true, .bool true, .bool true, arr a, arr b, arr (addP a b), arr c, arr (mulP (addP a b) c), arr a, arr c, arr (mulP a c), arr b, arr c, arr (mulP b c), arr (addP (mulP a c) (mulP b c)), .bool true, .bool true, .bool true, arr a, arr b, arr (subP a b), arr b, arr (addP (subP a b) b), arr a, .bool true, .bool true, .bool true, arr a, arr a, arr (negP a), arr (addP a (negP a)), arr 0, .bool true, .bool true, .bool true, arr a, arr 1, arr (mulP a 1), arr a, .bool true, .bool true, .bool true, arr a, arr b, arr (subP a b), arr b, arr a, arr (subP b a), arr (negP (subP b a)), .bool true, .bool true, .bool true] (by kernel_rfl) (by kernel_rfl) (by kernel_rfl) (by kernel_rfl) (fun _ _ _ h => h) h15.drew ?_ ?_
  · refine AllSure.cons (OpSure.take (v := arr a) (by kernel_rfl) (by kernel_rfl) (fun _ h => run_load_blk (by kernel_rfl) (h.get 2 rfl) Tryd.underlying26 rfl info26)) ?_
    refine AllSure.cons (OpSure.take (v := arr b) (by kernel_rfl) (by kernel_rfl) (fun _ h => run_load_blk (by kernel_rfl) (h.get 1 rfl) Tryd.underlying26 rfl info26)) ?_
    refine AllSure.cons (sure_call (v := arr (addP a b)) (by kernel_rfl) (by kernel_rfl) enter22 HA.keep #[arr a, arr b] (by kernel_rfl) (fun w' h' => Add_any a b ha hb w' (VV.out.below h'.old VV.out.big))) ?_
    refine AllSure.cons (OpSure.take (v := arr b) (by kernel_rfl) (by kernel_rfl) (fun _ h => run_load_blk (by kernel_rfl) (h.get 1 rfl) Tryd.underlying26 rfl info26)) ?_
    refine AllSure.cons (OpSure.take (v := arr a) (by kernel_rfl) (by kernel_rfl) (fun _ h => run_load_blk (by kernel_rfl) (h.get 2 rfl) Tryd.underlying26 rfl info26)) ?_
    refine AllSure.cons (sure_call (v := arr (addP b a)) (by kernel_rfl) (by kernel_rfl) enter22 HA.keep #[arr b, arr a] (by kernel_rfl) (fun w' h' => Add_any b a hb ha w' (VV.out.below h'.old VV.out.big))) ?_
    refine AllSure.cons (sure_call (v := .bool true) (by kernel_rfl) (by kernel_rfl) enter30 HA.keep #[arr (addP a b), arr (addP b a)] (by kernel_rfl) (fun w' h' => Same_yes (addP a b) (addP b a) (addP_lt _ _) (addP_lt _ _) (addP_comm a b) w')) ?_
    refine AllSure.cons (OpSure.take (v := .bool true) (by kernel_rfl) (by kernel_rfl) (fun _ _ => (by kernel_rfl))) ?_
    refine AllSure.cons (OpSure.take (v := arr a) (by kernel_rfl) (by kernel_rfl) (fun _ h => run_load_blk (by kernel_rfl) (h.get 2 rfl) Tryd.underlying26 rfl info26)) ?_
    refine AllSure.cons (OpSure.take (v := arr b) (by kernel_rfl) (by kernel_rfl) (fun _ h => run_load_blk (by kernel_rfl) (h.get 1 rfl) Tryd.underlying26 rfl info26)) ?_
    refine AllSure.cons (sure_call (v := arr (mulP a b)) (by kernel_rfl) (by kernel_rfl) enter26 HA.keep #[arr a, arr b] (by kernel_rfl) (fun w' h' => Mul_any a b ha hb w' (VV.out.below h'.old VV.out.big))) ?_
    refine AllSure.cons (OpSure.take (v := arr b) (by kernel_rfl) (by kernel_rfl) (fun _ h => run_load_blk (by kernel_rfl) (h.get 1 rfl) Tryd.underlying26 rfl info26)) ?_
    refine AllSure.cons (OpSure.take (v := arr a) (by kernel_rfl) (by kernel_rfl) (fun _ h => run_load_blk (by kernel_rfl) (h.get 2 rfl) Tryd.underlying26 rfl info26)) ?_
    refine AllSure.cons (sure_call (v := arr (mulP b a)) (by kernel_rfl) (by kernel_rfl) enter26 HA.keep #[arr b, arr a] (by kernel_rfl) (fun w' h' => Mul_any b a hb ha w' (VV.out.below h'.old VV.out.big))) ?_
    refine AllSure.cons (sure_call (v := .bool true) (by kernel_rfl) (by kernel_rfl) enter30 HA.keep #[arr (mulP a b), arr (mulP b a)] (by kernel_rfl) (fun w' h' => Same_yes (mulP a b) (mulP b a) (mulP_lt _ _) (mulP_lt _ _) (mulP_comm a b) w')) ?_
    refine AllSure.cons (OpSure.take (v := .bool true) (by kernel_rfl) (by kernel_rfl) (fun _ _ => (by kernel_rfl))) ?_
    refine AllSure.cons (OpSure.take (v := .bool true) (by kernel_rfl) (by kernel_rfl) (fun _ _ => (by kernel_rfl))) ?_
    refine AllSure.cons (OpSure.take (v := arr a) (by kernel_rfl) (by kernel_rfl) (fun _ h => run_load_blk (by kernel_rfl) (h.get 2 rfl) Tryd.underlying26 rfl info26)) ?_
    refine AllSure.cons (OpSure.take (v := arr b) (by kernel_rfl) (by kernel_rfl) (fun _ h => run_load_blk (by kernel_rfl) (h.get 1 rfl) Tryd.underlying26 rfl info26)) ?_
    refine AllSure.cons (sure_call (v := arr (addP a b)) (by kernel_rfl) (by kernel_rfl) enter22 HA.keep #[arr a, arr b] (by kernel_rfl) (fun w' h' => Add_any a b ha hb w' (VV.out.below h'.old VV.out.big))) ?_
    refine AllSure.cons (OpSure.take (v := arr c) (by kernel_rfl) (by kernel_rfl) (fun _ h => run_load_blk (by kernel_rfl) (h.get 0 rfl) Tryd.underlying26 rfl info26)) ?_
    refine AllSure.cons (sure_call (v := arr (addP (addP a b) c)) (by kernel_rfl) (by kernel_rfl) enter22 HA.keep #[arr (addP a b), arr c] (by kernel_rfl) (fun w' h' => Add_any (addP a b) c (addP_lt _ _) hc w' (VV.out.below h'.old VV.out.big))) ?_
    refine AllSure.cons (OpSure.take (v := arr a) (by kernel_rfl) (by kernel_rfl) (fun _ h => run_load_blk (by kernel_rfl) (h.get 2 rfl) Tryd.underlying26 rfl info26)) ?_
    refine AllSure.cons (OpSure.take (v := arr b) (by kernel_rfl) (by kernel_rfl) (fun _ h => run_load_blk (by kernel_rfl) (h.get 1 rfl) Tryd.underlying26 rfl info26)) ?_
    refine AllSure.cons (OpSure.take (v := arr c) (by kernel_rfl) (by kernel_rfl) (fun _ h => run_load_blk (by kernel_rfl) (h.get 0 rfl) Tryd.underlying26 rfl info26)) ?_
    refine AllSure.cons (sure_call (v := arr (addP b c)) (by kernel_rfl) (by kernel_rfl) enter22 HA.keep #[arr b, arr c] (by kernel_rfl) (fun w' h' => Add_any b c hb hc w' (VV.out.below h'.old VV.out.big))) ?_
    refine AllSure.cons (sure_call (v := arr (addP a (addP b c))) (by kernel_rfl) (by kernel_rfl) enter22 HA.keep #[arr a, arr (addP b c)] (by kernel_rfl) (fun w' h' => Add_any a (addP b c) ha (addP_lt _ _) w' (VV.out.below h'.old VV.out.big))) ?_
    refine AllSure.cons (sure_call (v := .bool true) (by kernel_rfl) (by kernel_rfl) enter30 HA.keep #[arr (addP (addP a b) c), arr (addP a (addP b c))] (by kernel_rfl) (fun w' h' => Same_yes (addP (addP a b) c) (addP a (addP b c)) (addP_lt _ _) (addP_lt _ _) (addP_assoc a b c) w')) ?_
    refine AllSure.cons (OpSure.take (v := .bool true) (by kernel_rfl) (by kernel_rfl) (fun _ _ => (by kernel_rfl))) ?_
    refine AllSure.cons (OpSure.take (v := .bool true) (by kernel_rfl) (by kernel_rfl) (fun _ _ => (by kernel_rfl))) ?_
    refine AllSure.cons (OpSure.take (v := arr a) (by kernel_rfl) (by kernel_rfl) (fun _ h => run_load_blk (by kernel_rfl) (h.get 2 rfl) Tryd.underlying26 rfl info26)) ?_
    refine AllSure.cons (OpSure.take (v := arr b) (by kernel_rfl) (by kernel_rfl) (fun _ h => run_load_blk (by kernel_rfl) (h.get 1 rfl) Tryd.underlying26 rfl info26)) ?_
    refine AllSure.cons (sure_call (v := arr (mulP a b)) (by kernel_rfl) (by kernel_rfl) enter26 HA.keep #[arr a, arr b] (by kernel_rfl) (fun w' h' => Mul_any a b ha hb w' (VV.out.below h'.old VV.out.big))) ?_
    refine AllSure.cons (OpSure.take (v := arr c) (by kernel_rfl) (by kernel_rfl) (fun _ h => run_load_blk (by kernel_rfl) (h.get 0 rfl) Tryd.underlying26 rfl info26)) ?_
    refine AllSure.cons (sure_call (v := arr (mulP (mulP a b) c)) (by kernel_rfl) (by kernel_rfl) enter26 HA.keep #[arr (mulP a b), arr c] (by kernel_rfl) (fun w' h' => Mul_any (mulP a b) c (mulP_lt _ _) hc w' (VV.out.below h'.old VV.out.big))) ?_
    refine AllSure.cons (OpSure.take (v := arr a) (by kernel_rfl) (by kernel_rfl) (fun _ h => run_load_blk (by kernel_rfl) (h.get 2 rfl) Tryd.underlying26 rfl info26)) ?_
    refine AllSure.cons (OpSure.take (v := arr b) (by kernel_rfl) (by kernel_rfl) (fun _ h => run_load_blk (by kernel_rfl) (h.get 1 rfl) Tryd.underlying26 rfl info26)) ?_
    refine AllSure.cons (OpSure.take (v := arr c) (by kernel_rfl) (by kernel_rfl) (fun _ h => run_load_blk (by kernel_rfl) (h.get 0 rfl) Tryd.underlying26 rfl info26)) ?_
    refine AllSure.cons (sure_call (v := arr (mulP b c)) (by kernel_rfl) (by kernel_rfl) enter26 HA.keep #[arr b, arr c] (by kernel_rfl) (fun w' h' => Mul_any b c hb hc w' (VV.out.below h'.old VV.out.big))) ?_
    refine AllSure.cons (sure_call (v := arr (mulP a (mulP b c))) (by kernel_rfl) (by kernel_rfl) enter26 HA.keep #[arr a, arr (mulP b c)] (by kernel_rfl) (fun w' h' => Mul_any a (mulP b c) ha (mulP_lt _ _) w' (VV.out.below h'.old VV.out.big))) ?_
    refine AllSure.cons (sure_call (v := .bool true) (by kernel_rfl) (by kernel_rfl) enter30 HA.keep #[arr (mulP (mulP a b) c), arr (mulP a (mulP b c))] (by kernel_rfl) (fun w' h' => Same_yes (mulP (mulP a b) c) (mulP a (mulP b c)) (mulP_lt _ _) (mulP_lt _ _) (mulP_assoc a b c) w')) ?_
    refine AllSure.cons (OpSure.take (v := .bool true) (by kernel_rfl) (by kernel_rfl) (fun _ _ => (by kernel_rfl))) ?_
    refine AllSure.cons (OpSure.take (v := .bool true) (by kernel_rfl) (by kernel_rfl) (fun _ _ => (by kernel_rfl))) ?_
    refine AllSure.cons (OpSure.take (v := arr a) (by kernel_rfl) (by kernel_rfl) (fun _ h => run_load_blk (by kernel_rfl) (h.get 2 rfl) Tryd.underlying26 rfl info26)) ?_
    refine AllSure.cons (OpSure.take (v := arr b) (by kernel_rfl) (by kernel_rfl) (fun _ h => run_load_blk (by kernel_rfl) (h.get 1 rfl) Tryd.underlying26 rfl info26)) ?_
    refine AllSure.cons (sure_call (v := arr (addP a b)) (by kernel_rfl) (by kernel_rfl) enter22 HA.keep #[arr a, arr b] (by kernel_rfl) (fun w' h' => Add_any a b ha hb w' (VV.out.below h'.old VV.out.big))) ?_
    refine AllSure.cons (OpSure.take (v := arr c) (by kernel_rfl) (by kernel_rfl) (fun _ h => run_load_blk (by kernel_rfl) (h.get 0 rfl) Tryd.underlying26 rfl info26)) ?_
    refine AllSure.cons (sure_call (v := arr (mulP (addP a b) c)) (by kernel_rfl) (by kernel_rfl) enter26 HA.keep #[arr (addP a b), arr c] (by kernel_rfl) (fun w' h' => Mul_any (addP a b) c (addP_lt _ _) hc w' (VV.out.below h'.old VV.out.big))) ?_
    refine AllSure.cons (OpSure.take (v := arr a) (by kernel_rfl) (by kernel_rfl) (fun _ h => run_load_blk (by kernel_rfl) (h.get 2 rfl) Tryd.underlying26 rfl info26)) ?_
    refine AllSure.cons (OpSure.take (v := arr c) (by kernel_rfl) (by kernel_rfl) (fun _ h => run_load_blk (by kernel_rfl) (h.get 0 rfl) Tryd.underlying26 rfl info26)) ?_
    refine AllSure.cons (sure_call (v := arr (mulP a c)) (by kernel_rfl) (by kernel_rfl) enter26 HA.keep #[arr a, arr c] (by kernel_rfl) (fun w' h' => Mul_any a c ha hc w' (VV.out.below h'.old VV.out.big))) ?_
    refine AllSure.cons (OpSure.take (v := arr b) (by kernel_rfl) (by kernel_rfl) (fun _ h => run_load_blk (by kernel_rfl) (h.get 1 rfl) Tryd.underlying26 rfl info26)) ?_
    refine AllSure.cons (OpSure.take (v := arr c) (by kernel_rfl) (by kernel_rfl) (fun _ h => run_load_blk (by kernel_rfl) (h.get 0 rfl) Tryd.underlying26 rfl info26)) ?_
    refine AllSure.cons (sure_call (v := arr (mulP b c)) (by kernel_rfl) (by kernel_rfl) enter26 HA.keep #[arr b, arr c] (by kernel_rfl) (fun w' h' => Mul_any b c hb hc w' (VV.out.below h'.old VV.out.big))) ?_
    refine AllSure.cons (sure_call (v := arr (addP (mulP a c) (mulP b c))) (by kernel_rfl) (by kernel_rfl) enter22 HA.keep #[arr (mulP a c), arr (mulP b c)] (by kernel_rfl) (fun w' h' => Add_any (mulP a c) (mulP b c) (mulP_lt _ _) (mulP_lt _ _) w' (VV.out.below h'.old VV.out.big))) ?_
    refine AllSure.cons (sure_call (v := .bool true) (by kernel_rfl) (by kernel_rfl) enter30 HA.keep #[arr (mulP (addP a b) c), arr (addP (mulP a c) (mulP b c))] (by kernel_rfl) (fun w' h' => Same_yes (mulP (addP a b) c) (addP (mulP a c) (mulP b c)) (mulP_lt _ _) (addP_lt _ _) (mulP_add a b c) w')) ?_
    refine AllSure.cons (OpSure.take (v := .bool true) (by kernel_rfl) (by kernel_rfl) (fun _ _ => (by kernel_rfl))) ?_
    refine AllSure.cons (OpSure.take (v := .bool true) (by kernel_rfl) (by kernel_rfl) (fun _ _ => (by kernel_rfl))) ?_
    refine AllSure.cons (OpSure.take (v := arr a) (by kernel_rfl) (by kernel_rfl) (fun _ h => run_load_blk (by kernel_rfl) (h.get 2 rfl) Tryd.underlying26 rfl info26)) ?_
    refine AllSure.cons (OpSure.take (v := arr b) (by kernel_rfl) (by kernel_rfl) (fun _ h => run_load_blk (by kernel_rfl) (h.get 1 rfl) Tryd.underlying26 rfl info26)) ?_
    refine AllSure.cons (sure_call (v := arr (subP a b)) (by kernel_rfl) (by kernel_rfl) enter24 HA.keep #[arr a, arr b] (by kernel_rfl) (fun w' h' => Sub_any a b ha hb w' (VV.out.below h'.old VV.out.big))) ?_
    refine AllSure.cons (OpSure.take (v := arr b) (by kernel_rfl) (by kernel_rfl) (fun _ h => run_load_blk (by kernel_rfl) (h.get 1 rfl) Tryd.underlying26 rfl info26)) ?_
    refine AllSure.cons (sure_call (v := arr (addP (subP a b) b)) (by kernel_rfl) (by kernel_rfl) enter22 HA.keep #[arr (subP a b), arr b] (by kernel_rfl) (fun w' h' => Add_any (subP a b) b (subP_lt _ _) hb w' (VV.out.below h'.old VV.out.big))) ?_
    refine AllSure.cons (OpSure.take (v := arr a) (by kernel_rfl) (by kernel_rfl) (fun _ h => run_load_blk (by kernel_rfl) (h.get 2 rfl) Tryd.underlying26 rfl info26)) ?_
    refine AllSure.cons (sure_call (v := .bool true) (by kernel_rfl) (by kernel_rfl) enter30 HA.keep #[arr (addP (subP a b) b), arr a] (by kernel_rfl) (fun w' h' => Same_yes (addP (subP a b) b) a (addP_lt _ _) ha (sub_add a b ha hb) w')) ?_
    refine AllSure.cons (OpSure.take (v := .bool true) (by kernel_rfl) (by kernel_rfl) (fun _ _ => (by kernel_rfl))) ?_
    refine AllSure.cons (OpSure.take (v := .bool true) (by kernel_rfl) (by kernel_rfl) (fun _ _ => (by kernel_rfl))) ?_
    refine AllSure.cons (OpSure.take (v := arr a) (by kernel_rfl) (by kernel_rfl) (fun _ h => run_load_blk (by kernel_rfl) (h.get 2 rfl) Tryd.underlying26 rfl info26)) ?_
    refine AllSure.cons (OpSure.take (v := arr a) (by kernel_rfl) (by kernel_rfl) (fun _ h => run_load_blk (by kernel_rfl) (h.get 2 rfl) Tryd.underlying26 rfl info26)) ?_
    refine AllSure.cons (sure_call (v := arr (negP a)) (by kernel_rfl) (by kernel_rfl) enter28 HA.keep #[arr a] (by kernel_rfl) (fun w' h' => Neg_any a ha w' (VV.out.below h'.old VV.out.big))) ?_
    refine AllSure.cons (sure_call (v := arr (addP a (negP a))) (by kernel_rfl) (by kernel_rfl) enter22 HA.keep #[arr a, arr (negP a)] (by kernel_rfl) (fun w' h' => Add_any a (negP a) ha (negP_lt _) w' (VV.out.below h'.old VV.out.big))) ?_
    refine AllSure.cons (sure_call (v := arr 0) (by kernel_rfl) (by kernel_rfl) enter17 HA.keep #[iN .u32 0] (by kernel_rfl) (fun w' h' => Small_any 0 (by decide) w')) ?_
    refine AllSure.cons (sure_call (v := .bool true) (by kernel_rfl) (by kernel_rfl) enter30 HA.keep #[arr (addP a (negP a)), arr 0] (by kernel_rfl) (fun w' h' => Same_yes (addP a (negP a)) 0 (addP_lt _ _) (by decide) (add_neg a ha) w')) ?_
    refine AllSure.cons (OpSure.take (v := .bool true) (by kernel_rfl) (by kernel_rfl) (fun _ _ => (by kernel_rfl))) ?_
    refine AllSure.cons (OpSure.take (v := .bool true) (by kernel_rfl) (by kernel_rfl) (fun _ _ => (by kernel_rfl))) ?_
    refine AllSure.cons (OpSure.take (v := arr a) (by kernel_rfl) (by kernel_rfl) (fun _ h => run_load_blk (by kernel_rfl) (h.get 2 rfl) Tryd.underlying26 rfl info26)) ?_
    refine AllSure.cons (sure_call (v := arr 1) (by kernel_rfl) (by kernel_rfl) enter17 HA.keep #[iN .u32 1] (by kernel_rfl) (fun w' h' => Small_any 1 (by decide) w')) ?_
    refine AllSure.cons (sure_call (v := arr (mulP a 1)) (by kernel_rfl) (by kernel_rfl) enter26 HA.keep #[arr a, arr 1] (by kernel_rfl) (fun w' h' => Mul_any a 1 ha (by decide) w' (VV.out.below h'.old VV.out.big))) ?_
    refine AllSure.cons (OpSure.take (v := arr a) (by kernel_rfl) (by kernel_rfl) (fun _ h => run_load_blk (by kernel_rfl) (h.get 2 rfl) Tryd.underlying26 rfl info26)) ?_
    refine AllSure.cons (sure_call (v := .bool true) (by kernel_rfl) (by kernel_rfl) enter30 HA.keep #[arr (mulP a 1), arr a] (by kernel_rfl) (fun w' h' => Same_yes (mulP a 1) a (mulP_lt _ _) ha (mulP_one a ha) w')) ?_
    refine AllSure.cons (OpSure.take (v := .bool true) (by kernel_rfl) (by kernel_rfl) (fun _ _ => (by kernel_rfl))) ?_
    refine AllSure.cons (OpSure.take (v := .bool true) (by kernel_rfl) (by kernel_rfl) (fun _ _ => (by kernel_rfl))) ?_
    refine AllSure.cons (OpSure.take (v := arr a) (by kernel_rfl) (by kernel_rfl) (fun _ h => run_load_blk (by kernel_rfl) (h.get 2 rfl) Tryd.underlying26 rfl info26)) ?_
    refine AllSure.cons (OpSure.take (v := arr b) (by kernel_rfl) (by kernel_rfl) (fun _ h => run_load_blk (by kernel_rfl) (h.get 1 rfl) Tryd.underlying26 rfl info26)) ?_
    refine AllSure.cons (sure_call (v := arr (subP a b)) (by kernel_rfl) (by kernel_rfl) enter24 HA.keep #[arr a, arr b] (by kernel_rfl) (fun w' h' => Sub_any a b ha hb w' (VV.out.below h'.old VV.out.big))) ?_
    refine AllSure.cons (OpSure.take (v := arr b) (by kernel_rfl) (by kernel_rfl) (fun _ h => run_load_blk (by kernel_rfl) (h.get 1 rfl) Tryd.underlying26 rfl info26)) ?_
    refine AllSure.cons (OpSure.take (v := arr a) (by kernel_rfl) (by kernel_rfl) (fun _ h => run_load_blk (by kernel_rfl) (h.get 2 rfl) Tryd.underlying26 rfl info26)) ?_
    refine AllSure.cons (sure_call (v := arr (subP b a)) (by kernel_rfl) (by kernel_rfl) enter24 HA.keep #[arr b, arr a] (by kernel_rfl) (fun w' h' => Sub_any b a hb ha w' (VV.out.below h'.old VV.out.big))) ?_
    refine AllSure.cons (sure_call (v := arr (negP (subP b a))) (by kernel_rfl) (by kernel_rfl) enter28 HA.keep #[arr (subP b a)] (by kernel_rfl) (fun w' h' => Neg_any (subP b a) (subP_lt _ _) w' (VV.out.below h'.old VV.out.big))) ?_
    refine AllSure.cons (sure_call (v := .bool true) (by kernel_rfl) (by kernel_rfl) enter30 HA.keep #[arr (subP a b), arr (negP (subP b a))] (by kernel_rfl) (fun w' h' => Same_yes (subP a b) (negP (subP b a)) (subP_lt _ _) (negP_lt _) (sub_neg a b ha hb) w')) ?_
    refine AllSure.cons (OpSure.take (v := .bool true) (by kernel_rfl) (by kernel_rfl) (fun _ _ => (by kernel_rfl))) ?_
    refine AllSure.cons (OpSure.take (v := .bool true) (by kernel_rfl) (by kernel_rfl) (fun _ _ => (by kernel_rfl))) ?_
    exact AllSure.nil
  intro w19 h20
  refine then_at (F := ⟨(.agg c0 :: .agg c1 :: .agg c2 :: pt q1 :: pt q4 :: pt q7 :: .bool true :: pt q16 :: pt q17 :: pt q18 :: .bool true :: .bool false :: .agg c0 :: arr a :: .agg c1 :: arr b :: .agg c2 :: arr c :: arr a :: arr b :: arr (addP a b) :: arr b :: arr a :: arr (addP b a) :: .bool true :: .bool true :: arr a :: arr b :: arr (mulP a b) :: arr b :: arr a :: arr (mulP b a) :: .bool true :: .bool true :: .bool true :: arr a :: arr b :: arr (addP a b) :: arr c :: arr (addP (addP a b) c) :: arr a :: arr b :: arr c :: arr (addP b c) :: arr (addP a (addP b c)) :: .bool true :: .bool true :: .bool true :: arr a :: arr b :: arr (mulP a b) :: arr c :: arr (mulP (mulP a b) c) :: arr a :: arr b :: arr c :: arr (mulP b c) :: arr (mulP a (mulP b c)) :: .bool true :: .bool true :: .bool true :: arr a :: arr b :: arr (addP a b) :: arr c :: arr (mulP (addP a b) c) :: arr a :: arr c :: arr (mulP a c) :: arr b :: arr c :: arr (mulP b c) :: arr (addP (mulP a c) (mulP b c)) :: .bool true :: .bool true :: .bool true :: arr a :: arr b :: arr (subP a b) :: arr b :: arr (addP (subP a b) b) :: arr a :: .bool true :: .bool true :: .bool true :: arr a :: arr a :: arr (negP a) :: arr (addP a (negP a)) :: arr 0 :: .bool true :: .bool true :: .bool true :: arr a :: arr 1 :: arr (mulP a 1) :: arr a :: .bool true :: .bool true :: .bool true :: arr a :: arr b :: arr (subP a b) :: arr b :: arr a :: arr (subP b a) :: arr (negP (subP b a)) :: .bool true :: .bool true :: List.replicate 0 un).toArray, []⟩) (by kernel_rfl) ?_
  refine wp_ret ?_
  repeat first | refine then_ret ?_ | refine block_ret ?_
  exact bodyPost_ret (v := .bool true) (by kernel_rfl) rfl ⟨rfl, h20.old⟩
theorem FieldRing_any (l m n : List UInt8) (hl : l.length = 32) (hm : m.length = 32) (hn : n.length = 32) (w : World) (V : Vars w) :
    Calls Tryd.prog 6 #[.agg (cs l).toArray, .agg (cs m).toArray, .agg (cs n).toArray] w fun e w' => e = .returned (.bool true) ∧ Below w.heap.size w w' :=
  ring_walk _ _ _ _ _ _ (by simp [cs, hl]) (by simp [cs, hm]) (by simp [cs, hn]) (anyP_lt l) (anyP_lt m) (anyP_lt n) (any1_any l hl) (any1_any m hm) (any1_any n hn) w V
end Go.Proofs.YtbmfmamhidccbaaDoor
