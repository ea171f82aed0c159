/-
  squared, at, y, None, crossed, doubled: what they answer.
-/
import Derived.Test.YtpaendmdcdeemaaDoorCuB
namespace Go.Proofs.YtpaendmdcdeemaaDoor
open Go.RowKit Num


set_option linter.unusedVariables false in
set_option maxRecDepth 100000 in
set_option maxHeartbeats 2000000 in
theorem squared_any (a : Nat) (ha : a < P) (w : World) (VV : Vars w) :
    Calls Tryd.prog 78 #[arr a] w fun e w' => e = .returned (arr (mulP a a)) ∧ Below w.heap.size w w' := by
  have H0 := HA.start w
  go_enter Tryd.func78, Tryd.ntmps78
  refine wp_seq ?_
  -- region 0
  refine wl_region ?_
  refine wl_make H0 25 (by kernel_rfl) (run_box25 (c := el a) (by kernel_rfl)) ?_
  intro q1 w2 h3
  refine wl_make h3 25 (by kernel_rfl) run_alloc25 ?_
  intro q4 w5 h6
  refine wl_nil ?_
  refine then_at (F := ⟨(arr a :: pt q1 :: pt q4 :: List.replicate 3 un).toArray, []⟩) (by kernel_rfl) ?_
  refine wp_seq ?_
  -- region 1
  refine wl_region ?_
  refine wl_load h6 1 rfl (by kernel_rfl) (by kernel_rfl) Tryd.underlying25 rfl (info_el _) ?_
  refine wl_load h6 1 rfl (by kernel_rfl) (by kernel_rfl) Tryd.underlying25 rfl (info_el _) ?_
  refine wl_call (v := arr (mulP a a)) h6 (by kernel_rfl) enter80 #[arr a, arr a] (by kernel_rfl) (Mul_any a a ha ha w5 (VV.below h6.old VV.big)) ?_
  intro w7 h8
  refine wl_fill (c' := el (mulP a a)) h8 0 rfl (by kernel_rfl) (by kernel_rfl) (by kernel_rfl) (el_sz _ _) (info_el _) (one_el _) ?_
  intro w9 (h10 : HA w [(q4, 25, el (mulP a a)), (q1, 25, el a)] w9)
  refine wl_nil ?_
  refine then_at (F := ⟨(arr a :: pt q1 :: pt q4 :: arr a :: arr a :: arr (mulP a a) :: List.replicate 0 un).toArray, []⟩) (by kernel_rfl) ?_
  refine wp_ret ?_
  repeat first | refine then_ret ?_ | refine block_ret ?_
  exact bodyPost_ret (v := arr (mulP a a)) (res_cell (p := 2) (by kernel_rfl) (by kernel_rfl) (h10.get 0 rfl) Tryd.underlying25 rfl (info_el _)) rfl ⟨rfl, h10.old⟩

set_option linter.unusedVariables false in
set_option maxRecDepth 100000 in
set_option maxHeartbeats 2000000 in
theorem at_any (a b : Nat) (ha : a < P) (hb : b < P) (w : World) (VV : Vars w) :
    Calls Tryd.prog 43 #[arr a, arr b] w fun e w' => e = .returned (.agg (pr a (subP b 1))) ∧ Below w.heap.size w w' := by
  have H0 := HA.start w
  go_enter Tryd.func43, Tryd.ntmps43
  refine wp_seq ?_
  -- region 0
  refine wl_region ?_
  refine wl_make H0 25 (by kernel_rfl) (run_box25 (c := el a) (by kernel_rfl)) ?_
  intro q1 w2 h3
  refine wl_make h3 25 (by kernel_rfl) (run_box25 (c := el b) (by kernel_rfl)) ?_
  intro q4 w5 h6
  refine wl_make h6 27 (by kernel_rfl) run_alloc27 ?_
  intro q7 w8 h9
  refine wl_nil ?_
  refine then_at (F := ⟨(arr a :: arr b :: pt q1 :: pt q4 :: pt q7 :: List.replicate 5 un).toArray, []⟩) (by kernel_rfl) ?_
  refine wp_seq ?_
  -- region 1
  refine wp_region_ghost (fun _ : Nat → Nat => (⟨(arr a :: arr b :: pt q1 :: pt q4 :: pt q7 :: arr a :: arr b :: arr 1 :: arr (subP b 1) :: .agg (pr a (subP b 1)) :: List.replicate 0 un).toArray, []⟩ : Act)) (GF w [(q7, 27, pr 0 0), (q4, 25, el b), (q1, 25, el a)] 5 4 0 q7 27 (pr a (subP b 1))) [arr a, arr b, arr 1, arr (subP b 1), .agg (pr a (subP b 1)), undef] (by kernel_rfl) (by kernel_rfl) (by kernel_rfl) (by kernel_rfl) (fun _ _ _ _ h => h) (fun d hd => GF.start h9.drew (hd 5 (by decide))) ?_ ?_
  · refine AllGhost.cons (gf_load2 2 (by decide) rfl (by decide) (fun _ => by kernel_rfl) (fun _ => by kernel_rfl) (fun _ => by kernel_rfl) Tryd.underlying25 rfl (info_el _)) ?_
    refine AllGhost.cons (gf_load2 1 (by decide) rfl (by decide) (fun _ => by kernel_rfl) (fun _ => by kernel_rfl) (fun _ => by kernel_rfl) Tryd.underlying25 rfl (info_el _)) ?_
    refine AllGhost.cons (gf_callh (v := arr 1) (by decide) (fun _ => by kernel_rfl) (fun _ => by kernel_rfl) enter41 #[iN .u32 1] (fun _ => by kernel_rfl) (fun w' ho => Small_any 1 (by decide) w')) ?_
    refine AllGhost.cons (gf_callh (v := arr (subP b 1)) (by decide) (fun _ => by kernel_rfl) (fun _ => by kernel_rfl) enter79 #[arr b, arr 1] (fun _ => by kernel_rfl) (fun w' ho => Sub_any b 1 hb (by decide) w' (VV.below ho VV.big))) ?_
    refine AllGhost.cons (gf_plain (v := .agg (pr a (subP b 1))) (by decide) (fun _ => by kernel_rfl) (fun _ => by kernel_rfl) (fun _ _ => (run_build27 (a := a) (b := subP b 1) (by kernel_rfl) (by kernel_rfl)))) ?_
    refine AllGhost.cons (gf_fill rfl (pr_sz a (subP b 1) 0 0) (fun _ => by kernel_rfl) (fun _ => by kernel_rfl) (fun _ => by kernel_rfl) (fun _ => by kernel_rfl) (info27p a (subP b 1)) (one_pr a (subP b 1)) (by decide) (by kernel_rfl)) ?_
    exact AllGhost.nil
  intro _ w10 g11
  have h12 : HA w [(q7, 27, pr a (subP b 1)), (q4, 25, el b), (q1, 25, el a)] w10 := g11.held
  clear g11
  refine then_at (F := ⟨(arr a :: arr b :: pt q1 :: pt q4 :: pt q7 :: arr a :: arr b :: arr 1 :: arr (subP b 1) :: .agg (pr a (subP b 1)) :: List.replicate 0 un).toArray, []⟩) (by kernel_rfl) ?_
  refine wp_ret ?_
  repeat first | refine then_ret ?_ | refine block_ret ?_
  exact bodyPost_ret (v := .agg (pr a (subP b 1))) (res_cell (p := 4) (by kernel_rfl) (by kernel_rfl) (h12.get 0 rfl) Tryd.underlying27 rfl (info27p a (subP b 1))) rfl ⟨rfl, h12.old⟩

set_option linter.unusedVariables false in
set_option maxRecDepth 100000 in
set_option maxHeartbeats 2000000 in
theorem y_any (a b : Nat) (hb : b < P) (w : World) (VV : Vars w) :
    Calls Tryd.prog 47 #[.agg (pr a b)] w fun e w' => e = .returned (arr (addP b 1)) ∧ Below w.heap.size w w' := by
  have H0 := HA.start w
  go_enter Tryd.func47, Tryd.ntmps47
  refine wp_seq ?_
  -- region 0
  refine wl_region ?_
  refine wl_make H0 27 (by kernel_rfl) (run_box27 (c := pr a b) (by kernel_rfl)) ?_
  intro q1 w2 h3
  refine wl_make h3 25 (by kernel_rfl) run_alloc25 ?_
  intro q4 w5 h6
  refine wl_nil ?_
  refine then_at (F := ⟨(.agg (pr a b) :: pt q1 :: pt q4 :: List.replicate 4 un).toArray, []⟩) (by kernel_rfl) ?_
  refine wp_seq ?_
  -- region 1
  refine wp_region_ghost (fun _ : Nat → Nat => (⟨(.agg (pr a b) :: pt q1 :: pt q4 :: .pointer (some ⟨q1, 4, none⟩) :: arr b :: arr 1 :: arr (addP b 1) :: List.replicate 0 un).toArray, []⟩ : Act)) (GF w [(q4, 25, el 0), (q1, 27, pr a b)] 4 3 0 q4 25 (el (addP b 1))) [.pointer (some ⟨q1, 4, none⟩), arr b, arr 1, arr (addP b 1), undef] (by kernel_rfl) (by kernel_rfl) (by kernel_rfl) (by kernel_rfl) (fun _ _ _ _ h => h) (fun d hd => GF.start h6.drew (hd 4 (by decide))) ?_ ?_
  · refine AllGhost.cons (gf_plain (v := .pointer (some ⟨q1, 4, none⟩)) (by decide) (fun _ => by kernel_rfl) (fun _ => by kernel_rfl) (fun _ _ => (by kernel_rfl))) ?_
    refine AllGhost.cons (gf_read (v := arr b) 1 (by decide) rfl (by decide) (fun _ => by kernel_rfl) (fun _ => by kernel_rfl) (fun _ _ hb => run_part (q := q1) (off := 4 * 1) (n := b) (by kernel_rfl) hb (fun i _ => pr_get1 a b i))) ?_
    refine AllGhost.cons (gf_callh (v := arr 1) (by decide) (fun _ => by kernel_rfl) (fun _ => by kernel_rfl) enter41 #[iN .u32 1] (fun _ => by kernel_rfl) (fun w' ho => Small_any 1 (by decide) w')) ?_
    refine AllGhost.cons (gf_callh (v := arr (addP b 1)) (by decide) (fun _ => by kernel_rfl) (fun _ => by kernel_rfl) enter87 #[arr b, arr 1] (fun _ => by kernel_rfl) (fun w' ho => Add_any b 1 hb (by decide) w' (VV.below ho VV.big))) ?_
    refine AllGhost.cons (gf_fill rfl (el_sz _ _) (fun _ => by kernel_rfl) (fun _ => by kernel_rfl) (fun _ => by kernel_rfl) (fun _ => by kernel_rfl) (info_el _) (one_el _) (by decide) (by kernel_rfl)) ?_
    exact AllGhost.nil
  intro _ w7 g8
  have h9 : HA w [(q4, 25, el (addP b 1)), (q1, 27, pr a b)] w7 := g8.held
  clear g8
  refine then_at (F := ⟨(.agg (pr a b) :: pt q1 :: pt q4 :: .pointer (some ⟨q1, 4, none⟩) :: arr b :: arr 1 :: arr (addP b 1) :: List.replicate 0 un).toArray, []⟩) (by kernel_rfl) ?_
  refine wp_ret ?_
  repeat first | refine then_ret ?_ | refine block_ret ?_
  exact bodyPost_ret (v := arr (addP b 1)) (res_cell (p := 2) (by kernel_rfl) (by kernel_rfl) (h9.get 0 rfl) Tryd.underlying25 rfl (info_el _)) rfl ⟨rfl, h9.old⟩

set_option linter.unusedVariables false in
set_option maxRecDepth 100000 in
set_option maxHeartbeats 2000000 in
theorem None_any (w : World) :
    Calls Tryd.prog 29 #[] w fun e w' => e = .returned (.agg (pr 0 0)) ∧ Below w.heap.size w w' := by
  have H0 := HA.start w
  go_enter Tryd.func29, Tryd.ntmps29
  refine wp_seq ?_
  -- region 0
  refine wl_region ?_
  refine wl_make H0 27 (by kernel_rfl) run_alloc27 ?_
  intro q1 w2 h3
  refine wl_nil ?_
  refine then_at (F := ⟨(pt q1 :: List.replicate 1 un).toArray, []⟩) (by kernel_rfl) ?_
  refine wp_seq ?_
  -- region 1
  refine wl_region ?_
  refine wl_val (.agg (pr 0 0)) (by kernel_rfl) run_build27z ?_
  refine wl_fill (c' := pr 0 0) h3 0 rfl (by kernel_rfl) (by kernel_rfl) (by kernel_rfl) (pr_sz 0 0 0 0) (info27p 0 0) (one_pr 0 0) ?_
  intro w4 (h5 : HA w [(q1, 27, pr 0 0)] w4)
  refine wl_nil ?_
  refine then_at (F := ⟨(pt q1 :: .agg (pr 0 0) :: List.replicate 0 un).toArray, []⟩) (by kernel_rfl) ?_
  refine wp_ret ?_
  repeat first | refine then_ret ?_ | refine block_ret ?_
  exact bodyPost_ret (v := .agg (pr 0 0)) (res_cell (p := 0) (by kernel_rfl) (by kernel_rfl) (h5.get 0 rfl) Tryd.underlying27 rfl (info27p 0 0)) rfl ⟨rfl, h5.old⟩

set_option linter.unusedVariables false in
set_option maxRecDepth 100000 in
set_option maxHeartbeats 2000000 in
theorem fdouble_any (a b : Nat) (ha : a < P) (hb : b < P) (w : World) (VV : Vars w) :
    Calls Tryd.prog 95 #[.agg (pr a b)] w fun e w' => e = .returned (.agg (pr (mulP (mulP (addP a b) (addP a b)) (mulP (subP a b) (subP a b))) (mulP (subP (mulP (addP a b) (addP a b)) (mulP (subP a b) (subP a b))) (addP (mulP (addP a b) (addP a b)) (mulP (subP (mulP (addP a b) (addP a b)) (mulP (subP a b) (subP a b))) 121665))))) ∧ Below w.heap.size w w' := by
  have H0 := HA.start w
  go_enter Tryd.func95, Tryd.ntmps95
  refine wp_seq ?_
  -- region 0
  refine wl_region ?_
  refine wl_make H0 113 (by kernel_rfl) (run_box113 (c := pr a b) (by kernel_rfl)) ?_
  intro q1 w2 h3
  refine wl_make h3 113 (by kernel_rfl) run_alloc113 ?_
  intro q4 w5 h6
  refine wl_nil ?_
  refine then_at (F := ⟨(.agg (pr a b) :: pt q1 :: pt q4 :: List.replicate 29 un).toArray, []⟩) (by kernel_rfl) ?_
  refine wp_seq ?_
  -- region 1
  obtain ⟨B7, eB7⟩ : ∃ B, B = w5.heap.size := ⟨_, rfl⟩
  refine wp_region_ghost (fun g : Nat → Nat => (⟨(.agg (pr a b) :: pt q1 :: pt q4 :: pt (g 12) :: pt (g 13) :: un :: pt q1 :: arr a :: .pointer (some ⟨q1, 4, none⟩) :: arr b :: arr (addP a b) :: arr (mulP (addP a b) (addP a b)) :: pt q1 :: arr a :: .pointer (some ⟨q1, 4, none⟩) :: arr b :: arr (subP a b) :: arr (mulP (subP a b) (subP a b)) :: List.replicate 14 un).toArray, []⟩ : Act)) (GS w [(q4, 113, pr 0 0), (q1, 113, pr a b)] B7 2 12 14 25 (el 0) (fun j => match j with | 0 => el (mulP (addP a b) (addP a b)) | _ => el (mulP (subP a b) (subP a b)))) [.pointer (some ⟨q1, 0, none⟩), arr a, .pointer (some ⟨q1, 4, none⟩), arr b, arr (addP a b), arr (mulP (addP a b) (addP a b)), .pointer (some ⟨q1, 0, none⟩), arr a, .pointer (some ⟨q1, 4, none⟩), arr b, arr (subP a b), arr (mulP (subP a b) (subP a b)), .pointer (some ⟨0, 0, none⟩), .pointer (some ⟨0, 0, none⟩), undef, undef] (by kernel_rfl) (by kernel_rfl) (by kernel_rfl) (by kernel_rfl) (fun _ _ _ _ h => h) (fun d hd => GS.start h6.drew eB7 (by decide) (fun j _ => by rcases j with _ | j <;> exact (el_sz _ _)) (fun j hj => hd j (Nat.lt_of_lt_of_le hj (by decide)))) ?_ ?_
  · refine AllGhost.cons (ghost_plain (v := .pointer (some ⟨q1, 0, none⟩)) (by decide) (fun _ => by kernel_rfl) (fun _ => by kernel_rfl) (fun _ _ => (by kernel_rfl))) ?_
    refine AllGhost.cons (ghost_held (v := arr a) (by decide) (fun _ => by kernel_rfl) (fun _ => by kernel_rfl) (fun _ w' h' => run_part (q := q1) (off := 4 * 0) (n := a) (by kernel_rfl) (h'.get 1 rfl) (fun i hi => pr_get0 a b i hi))) ?_
    refine AllGhost.cons (ghost_plain (v := .pointer (some ⟨q1, 4, none⟩)) (by decide) (fun _ => by kernel_rfl) (fun _ => by kernel_rfl) (fun _ _ => (by kernel_rfl))) ?_
    refine AllGhost.cons (ghost_held (v := arr b) (by decide) (fun _ => by kernel_rfl) (fun _ => by kernel_rfl) (fun _ w' h' => run_part (q := q1) (off := 4 * 1) (n := b) (by kernel_rfl) (h'.get 1 rfl) (fun i _ => pr_get1 a b i))) ?_
    refine AllGhost.cons (ghost_call (v := arr (addP a b)) (by decide) (fun _ => by kernel_rfl) (fun _ => by kernel_rfl) enter87 #[arr a, arr b] (fun _ => by kernel_rfl) (fun w' h' => Add_any a b ha hb w' (VV.below h'.old VV.big))) ?_
    refine AllGhost.cons (ghost_call (v := arr (mulP (addP a b) (addP a b))) (by decide) (fun _ => by kernel_rfl) (fun _ => by kernel_rfl) enter78 #[arr (addP a b)] (fun _ => by kernel_rfl) (fun w' h' => squared_any (addP a b) (addP_lt _ _) w' (VV.below h'.old VV.big))) ?_
    refine AllGhost.cons (ghost_plain (v := .pointer (some ⟨q1, 0, none⟩)) (by decide) (fun _ => by kernel_rfl) (fun _ => by kernel_rfl) (fun _ _ => (by kernel_rfl))) ?_
    refine AllGhost.cons (ghost_held (v := arr a) (by decide) (fun _ => by kernel_rfl) (fun _ => by kernel_rfl) (fun _ w' h' => run_part (q := q1) (off := 4 * 0) (n := a) (by kernel_rfl) (h'.get 1 rfl) (fun i hi => pr_get0 a b i hi))) ?_
    refine AllGhost.cons (ghost_plain (v := .pointer (some ⟨q1, 4, none⟩)) (by decide) (fun _ => by kernel_rfl) (fun _ => by kernel_rfl) (fun _ _ => (by kernel_rfl))) ?_
    refine AllGhost.cons (ghost_held (v := arr b) (by decide) (fun _ => by kernel_rfl) (fun _ => by kernel_rfl) (fun _ w' h' => run_part (q := q1) (off := 4 * 1) (n := b) (by kernel_rfl) (h'.get 1 rfl) (fun i _ => pr_get1 a b i))) ?_
    refine AllGhost.cons (ghost_call (v := arr (subP a b)) (by decide) (fun _ => by kernel_rfl) (fun _ => by kernel_rfl) enter79 #[arr a, arr b] (fun _ => by kernel_rfl) (fun w' h' => Sub_any a b ha hb w' (VV.below h'.old VV.big))) ?_
    refine AllGhost.cons (ghost_call (v := arr (mulP (subP a b) (subP a b))) (by decide) (fun _ => by kernel_rfl) (fun _ => by kernel_rfl) enter78 #[arr (subP a b)] (fun _ => by kernel_rfl) (fun w' h' => squared_any (subP a b) (subP_lt _ _) w' (VV.below h'.old VV.big))) ?_
    refine AllGhost.cons (ghost_make 0 (by decide) rfl (fun _ => by kernel_rfl) (fun _ _ => by kernel_rfl) (fun _ _ => run_alloc25)) ?_
    refine AllGhost.cons (ghost_make 1 (by decide) rfl (fun _ => by kernel_rfl) (fun _ _ => by kernel_rfl) (fun _ _ => run_alloc25)) ?_
    refine AllGhost.cons (ghost_fill 0 (by decide) rfl (fun _ => by kernel_rfl) (fun _ => by kernel_rfl) (fun _ => by kernel_rfl) (fun _ => by kernel_rfl) (info_el _) (one_el _) (by kernel_rfl)) ?_
    refine AllGhost.cons (ghost_fill 1 (by decide) rfl (fun _ => by kernel_rfl) (fun _ => by kernel_rfl) (fun _ => by kernel_rfl) (fun _ => by kernel_rfl) (info_el _) (one_el _) (by kernel_rfl)) ?_
    exact AllGhost.nil
  intro g w8 g9
  have h10 : HA w [(g 13, 25, el (mulP (subP a b) (subP a b))), (g 12, 25, el (mulP (addP a b) (addP a b))), (q4, 113, pr 0 0), (q1, 113, pr a b)] w8 := g9.two
  clear g9 eB7
  generalize g 12 = q11 at h10 ⊢
  generalize g 13 = q12 at h10 ⊢
  clear g
  refine then_at (F := ⟨(.agg (pr a b) :: pt q1 :: pt q4 :: pt q11 :: pt q12 :: un :: pt q1 :: arr a :: .pointer (some ⟨q1, 4, none⟩) :: arr b :: arr (addP a b) :: arr (mulP (addP a b) (addP a b)) :: pt q1 :: arr a :: .pointer (some ⟨q1, 4, none⟩) :: arr b :: arr (subP a b) :: arr (mulP (subP a b) (subP a b)) :: List.replicate 14 un).toArray, []⟩) (by kernel_rfl) ?_
  refine wp_seq ?_
  -- region 2
  refine wl_region ?_
  refine wl_load h10 1 rfl (by kernel_rfl) (by kernel_rfl) Tryd.underlying25 rfl (info_el _) ?_
  refine wl_load h10 0 rfl (by kernel_rfl) (by kernel_rfl) Tryd.underlying25 rfl (info_el _) ?_
  refine wl_call (v := arr (subP (mulP (addP a b) (addP a b)) (mulP (subP a b) (subP a b)))) h10 (by kernel_rfl) enter79 #[arr (mulP (addP a b) (addP a b)), arr (mulP (subP a b) (subP a b))] (by kernel_rfl) (Sub_any (mulP (addP a b) (addP a b)) (mulP (subP a b) (subP a b)) (mulP_lt _ _) (mulP_lt _ _) w8 (VV.below h10.old VV.big)) ?_
  intro w13 h14
  refine wl_make h14 25 (by kernel_rfl) run_alloc25 ?_
  intro q15 w16 h17
  refine wl_fill (c' := el (subP (mulP (addP a b) (addP a b)) (mulP (subP a b) (subP a b)))) h17 0 rfl (by kernel_rfl) (by kernel_rfl) (by kernel_rfl) (el_sz _ _) (info_el _) (one_el _) ?_
  intro w18 (h19 : HA w [(q15, 25, el (subP (mulP (addP a b) (addP a b)) (mulP (subP a b) (subP a b)))), (q12, 25, el (mulP (subP a b) (subP a b))), (q11, 25, el (mulP (addP a b) (addP a b))), (q4, 113, pr 0 0), (q1, 113, pr a b)] w18)
  refine wl_nil ?_
  refine then_at (F := ⟨(.agg (pr a b) :: pt q1 :: pt q4 :: pt q11 :: pt q12 :: pt q15 :: pt q1 :: arr a :: .pointer (some ⟨q1, 4, none⟩) :: arr b :: arr (addP a b) :: arr (mulP (addP a b) (addP a b)) :: pt q1 :: arr a :: .pointer (some ⟨q1, 4, none⟩) :: arr b :: arr (subP a b) :: arr (mulP (subP a b) (subP a b)) :: arr (mulP (addP a b) (addP a b)) :: arr (mulP (subP a b) (subP a b)) :: arr (subP (mulP (addP a b) (addP a b)) (mulP (subP a b) (subP a b))) :: List.replicate 11 un).toArray, []⟩) (by kernel_rfl) ?_
  refine wp_seq ?_
  -- region 3
  refine wp_region_ghost (fun _ : Nat → Nat => (⟨(.agg (pr a b) :: pt q1 :: pt q4 :: pt q11 :: pt q12 :: pt q15 :: pt q1 :: arr a :: .pointer (some ⟨q1, 4, none⟩) :: arr b :: arr (addP a b) :: arr (mulP (addP a b) (addP a b)) :: pt q1 :: arr a :: .pointer (some ⟨q1, 4, none⟩) :: arr b :: arr (subP a b) :: arr (mulP (subP a b) (subP a b)) :: arr (mulP (addP a b) (addP a b)) :: arr (mulP (subP a b) (subP a b)) :: arr (subP (mulP (addP a b) (addP a b)) (mulP (subP a b) (subP a b))) :: arr (mulP (addP a b) (addP a b)) :: arr (mulP (subP a b) (subP a b)) :: arr (mulP (mulP (addP a b) (addP a b)) (mulP (subP a b) (subP a b))) :: arr (subP (mulP (addP a b) (addP a b)) (mulP (subP a b) (subP a b))) :: arr (mulP (addP a b) (addP a b)) :: arr (subP (mulP (addP a b) (addP a b)) (mulP (subP a b) (subP a b))) :: arr 121665 :: arr (mulP (subP (mulP (addP a b) (addP a b)) (mulP (subP a b) (subP a b))) 121665) :: arr (addP (mulP (addP a b) (addP a b)) (mulP (subP (mulP (addP a b) (addP a b)) (mulP (subP a b) (subP a b))) 121665)) :: arr (mulP (subP (mulP (addP a b) (addP a b)) (mulP (subP a b) (subP a b))) (addP (mulP (addP a b) (addP a b)) (mulP (subP (mulP (addP a b) (addP a b)) (mulP (subP a b) (subP a b))) 121665))) :: .agg (pr (mulP (mulP (addP a b) (addP a b)) (mulP (subP a b) (subP a b))) (mulP (subP (mulP (addP a b) (addP a b)) (mulP (subP a b) (subP a b))) (addP (mulP (addP a b) (addP a b)) (mulP (subP (mulP (addP a b) (addP a b)) (mulP (subP a b) (subP a b))) 121665)))) :: List.replicate 0 un).toArray, []⟩ : Act)) (GF w [(q15, 25, el (subP (mulP (addP a b) (addP a b)) (mulP (subP a b) (subP a b)))), (q12, 25, el (mulP (subP a b) (subP a b))), (q11, 25, el (mulP (addP a b) (addP a b))), (q4, 113, pr 0 0), (q1, 113, pr a b)] 11 10 3 q4 113 (pr (mulP (mulP (addP a b) (addP a b)) (mulP (subP a b) (subP a b))) (mulP (subP (mulP (addP a b) (addP a b)) (mulP (subP a b) (subP a b))) (addP (mulP (addP a b) (addP a b)) (mulP (subP (mulP (addP a b) (addP a b)) (mulP (subP a b) (subP a b))) 121665))))) [arr (mulP (addP a b) (addP a b)), arr (mulP (subP a b) (subP a b)), arr (mulP (mulP (addP a b) (addP a b)) (mulP (subP a b) (subP a b))), arr (subP (mulP (addP a b) (addP a b)) (mulP (subP a b) (subP a b))), arr (mulP (addP a b) (addP a b)), arr (subP (mulP (addP a b) (addP a b)) (mulP (subP a b) (subP a b))), arr 121665, arr (mulP (subP (mulP (addP a b) (addP a b)) (mulP (subP a b) (subP a b))) 121665), arr (addP (mulP (addP a b) (addP a b)) (mulP (subP (mulP (addP a b) (addP a b)) (mulP (subP a b) (subP a b))) 121665)), arr (mulP (subP (mulP (addP a b) (addP a b)) (mulP (subP a b) (subP a b))) (addP (mulP (addP a b) (addP a b)) (mulP (subP (mulP (addP a b) (addP a b)) (mulP (subP a b) (subP a b))) 121665))), .agg (pr (mulP (mulP (addP a b) (addP a b)) (mulP (subP a b) (subP a b))) (mulP (subP (mulP (addP a b) (addP a b)) (mulP (subP a b) (subP a b))) (addP (mulP (addP a b) (addP a b)) (mulP (subP (mulP (addP a b) (addP a b)) (mulP (subP a b) (subP a b))) 121665)))), undef] (by kernel_rfl) (by kernel_rfl) (by kernel_rfl) (by kernel_rfl) (fun _ _ _ _ h => h) (fun d hd => GF.start h19.drew (hd 11 (by decide))) ?_ ?_
  · refine AllGhost.cons (gf_load2 2 (by decide) rfl (by decide) (fun _ => by kernel_rfl) (fun _ => by kernel_rfl) (fun _ => by kernel_rfl) Tryd.underlying25 rfl (info_el _)) ?_
    refine AllGhost.cons (gf_load2 1 (by decide) rfl (by decide) (fun _ => by kernel_rfl) (fun _ => by kernel_rfl) (fun _ => by kernel_rfl) Tryd.underlying25 rfl (info_el _)) ?_
    refine AllGhost.cons (gf_callh (v := arr (mulP (mulP (addP a b) (addP a b)) (mulP (subP a b) (subP a b)))) (by decide) (fun _ => by kernel_rfl) (fun _ => by kernel_rfl) enter80 #[arr (mulP (addP a b) (addP a b)), arr (mulP (subP a b) (subP a b))] (fun _ => by kernel_rfl) (fun w' ho => Mul_any (mulP (addP a b) (addP a b)) (mulP (subP a b) (subP a b)) (mulP_lt _ _) (mulP_lt _ _) w' (VV.below ho VV.big))) ?_
    refine AllGhost.cons (gf_load2 0 (by decide) rfl (by decide) (fun _ => by kernel_rfl) (fun _ => by kernel_rfl) (fun _ => by kernel_rfl) Tryd.underlying25 rfl (info_el _)) ?_
    refine AllGhost.cons (gf_load2 2 (by decide) rfl (by decide) (fun _ => by kernel_rfl) (fun _ => by kernel_rfl) (fun _ => by kernel_rfl) Tryd.underlying25 rfl (info_el _)) ?_
    refine AllGhost.cons (gf_load2 0 (by decide) rfl (by decide) (fun _ => by kernel_rfl) (fun _ => by kernel_rfl) (fun _ => by kernel_rfl) Tryd.underlying25 rfl (info_el _)) ?_
    refine AllGhost.cons (gf_callh (v := arr 121665) (by decide) (fun _ => by kernel_rfl) (fun _ => by kernel_rfl) enter41 #[iN .u32 121665] (fun _ => by kernel_rfl) (fun w' ho => Small_any 121665 (by decide) w')) ?_
    refine AllGhost.cons (gf_callh (v := arr (mulP (subP (mulP (addP a b) (addP a b)) (mulP (subP a b) (subP a b))) 121665)) (by decide) (fun _ => by kernel_rfl) (fun _ => by kernel_rfl) enter80 #[arr (subP (mulP (addP a b) (addP a b)) (mulP (subP a b) (subP a b))), arr 121665] (fun _ => by kernel_rfl) (fun w' ho => Mul_any (subP (mulP (addP a b) (addP a b)) (mulP (subP a b) (subP a b))) 121665 (subP_lt _ _) (by decide) w' (VV.below ho VV.big))) ?_
    refine AllGhost.cons (gf_callh (v := arr (addP (mulP (addP a b) (addP a b)) (mulP (subP (mulP (addP a b) (addP a b)) (mulP (subP a b) (subP a b))) 121665))) (by decide) (fun _ => by kernel_rfl) (fun _ => by kernel_rfl) enter87 #[arr (mulP (addP a b) (addP a b)), arr (mulP (subP (mulP (addP a b) (addP a b)) (mulP (subP a b) (subP a b))) 121665)] (fun _ => by kernel_rfl) (fun w' ho => Add_any (mulP (addP a b) (addP a b)) (mulP (subP (mulP (addP a b) (addP a b)) (mulP (subP a b) (subP a b))) 121665) (mulP_lt _ _) (mulP_lt _ _) w' (VV.below ho VV.big))) ?_
    refine AllGhost.cons (gf_callh (v := arr (mulP (subP (mulP (addP a b) (addP a b)) (mulP (subP a b) (subP a b))) (addP (mulP (addP a b) (addP a b)) (mulP (subP (mulP (addP a b) (addP a b)) (mulP (subP a b) (subP a b))) 121665)))) (by decide) (fun _ => by kernel_rfl) (fun _ => by kernel_rfl) enter80 #[arr (subP (mulP (addP a b) (addP a b)) (mulP (subP a b) (subP a b))), arr (addP (mulP (addP a b) (addP a b)) (mulP (subP (mulP (addP a b) (addP a b)) (mulP (subP a b) (subP a b))) 121665))] (fun _ => by kernel_rfl) (fun w' ho => Mul_any (subP (mulP (addP a b) (addP a b)) (mulP (subP a b) (subP a b))) (addP (mulP (addP a b) (addP a b)) (mulP (subP (mulP (addP a b) (addP a b)) (mulP (subP a b) (subP a b))) 121665)) (subP_lt _ _) (addP_lt _ _) w' (VV.below ho VV.big))) ?_
    refine AllGhost.cons (gf_plain (v := .agg (pr (mulP (mulP (addP a b) (addP a b)) (mulP (subP a b) (subP a b))) (mulP (subP (mulP (addP a b) (addP a b)) (mulP (subP a b) (subP a b))) (addP (mulP (addP a b) (addP a b)) (mulP (subP (mulP (addP a b) (addP a b)) (mulP (subP a b) (subP a b))) 121665))))) (by decide) (fun _ => by kernel_rfl) (fun _ => by kernel_rfl) (fun _ _ => (run_build113 (a := mulP (mulP (addP a b) (addP a b)) (mulP (subP a b) (subP a b))) (b := mulP (subP (mulP (addP a b) (addP a b)) (mulP (subP a b) (subP a b))) (addP (mulP (addP a b) (addP a b)) (mulP (subP (mulP (addP a b) (addP a b)) (mulP (subP a b) (subP a b))) 121665))) (by kernel_rfl) (by kernel_rfl)))) ?_
    refine AllGhost.cons (gf_fill rfl (pr_sz (mulP (mulP (addP a b) (addP a b)) (mulP (subP a b) (subP a b))) (mulP (subP (mulP (addP a b) (addP a b)) (mulP (subP a b) (subP a b))) (addP (mulP (addP a b) (addP a b)) (mulP (subP (mulP (addP a b) (addP a b)) (mulP (subP a b) (subP a b))) 121665))) 0 0) (fun _ => by kernel_rfl) (fun _ => by kernel_rfl) (fun _ => by kernel_rfl) (fun _ => by kernel_rfl) (info113p (mulP (mulP (addP a b) (addP a b)) (mulP (subP a b) (subP a b))) (mulP (subP (mulP (addP a b) (addP a b)) (mulP (subP a b) (subP a b))) (addP (mulP (addP a b) (addP a b)) (mulP (subP (mulP (addP a b) (addP a b)) (mulP (subP a b) (subP a b))) 121665)))) (one_pr (mulP (mulP (addP a b) (addP a b)) (mulP (subP a b) (subP a b))) (mulP (subP (mulP (addP a b) (addP a b)) (mulP (subP a b) (subP a b))) (addP (mulP (addP a b) (addP a b)) (mulP (subP (mulP (addP a b) (addP a b)) (mulP (subP a b) (subP a b))) 121665)))) (by decide) (by kernel_rfl)) ?_
    exact AllGhost.nil
  intro _ w20 g21
  have h22 : HA w [(q15, 25, el (subP (mulP (addP a b) (addP a b)) (mulP (subP a b) (subP a b)))), (q12, 25, el (mulP (subP a b) (subP a b))), (q11, 25, el (mulP (addP a b) (addP a b))), (q4, 113, pr (mulP (mulP (addP a b) (addP a b)) (mulP (subP a b) (subP a b))) (mulP (subP (mulP (addP a b) (addP a b)) (mulP (subP a b) (subP a b))) (addP (mulP (addP a b) (addP a b)) (mulP (subP (mulP (addP a b) (addP a b)) (mulP (subP a b) (subP a b))) 121665)))), (q1, 113, pr a b)] w20 := g21.held
  clear g21
  refine then_at (F := ⟨(.agg (pr a b) :: pt q1 :: pt q4 :: pt q11 :: pt q12 :: pt q15 :: pt q1 :: arr a :: .pointer (some ⟨q1, 4, none⟩) :: arr b :: arr (addP a b) :: arr (mulP (addP a b) (addP a b)) :: pt q1 :: arr a :: .pointer (some ⟨q1, 4, none⟩) :: arr b :: arr (subP a b) :: arr (mulP (subP a b) (subP a b)) :: arr (mulP (addP a b) (addP a b)) :: arr (mulP (subP a b) (subP a b)) :: arr (subP (mulP (addP a b) (addP a b)) (mulP (subP a b) (subP a b))) :: arr (mulP (addP a b) (addP a b)) :: arr (mulP (subP a b) (subP a b)) :: arr (mulP (mulP (addP a b) (addP a b)) (mulP (subP a b) (subP a b))) :: arr (subP (mulP (addP a b) (addP a b)) (mulP (subP a b) (subP a b))) :: arr (mulP (addP a b) (addP a b)) :: arr (subP (mulP (addP a b) (addP a b)) (mulP (subP a b) (subP a b))) :: arr 121665 :: arr (mulP (subP (mulP (addP a b) (addP a b)) (mulP (subP a b) (subP a b))) 121665) :: arr (addP (mulP (addP a b) (addP a b)) (mulP (subP (mulP (addP a b) (addP a b)) (mulP (subP a b) (subP a b))) 121665)) :: arr (mulP (subP (mulP (addP a b) (addP a b)) (mulP (subP a b) (subP a b))) (addP (mulP (addP a b) (addP a b)) (mulP (subP (mulP (addP a b) (addP a b)) (mulP (subP a b) (subP a b))) 121665))) :: .agg (pr (mulP (mulP (addP a b) (addP a b)) (mulP (subP a b) (subP a b))) (mulP (subP (mulP (addP a b) (addP a b)) (mulP (subP a b) (subP a b))) (addP (mulP (addP a b) (addP a b)) (mulP (subP (mulP (addP a b) (addP a b)) (mulP (subP a b) (subP a b))) 121665)))) :: List.replicate 0 un).toArray, []⟩) (by kernel_rfl) ?_
  refine wp_ret ?_
  repeat first | refine then_ret ?_ | refine block_ret ?_
  exact bodyPost_ret (v := .agg (pr (mulP (mulP (addP a b) (addP a b)) (mulP (subP a b) (subP a b))) (mulP (subP (mulP (addP a b) (addP a b)) (mulP (subP a b) (subP a b))) (addP (mulP (addP a b) (addP a b)) (mulP (subP (mulP (addP a b) (addP a b)) (mulP (subP a b) (subP a b))) 121665))))) (res_cell (p := 2) (by kernel_rfl) (by kernel_rfl) (h22.get 3 rfl) Tryd.underlying113 rfl (info113p (mulP (mulP (addP a b) (addP a b)) (mulP (subP a b) (subP a b))) (mulP (subP (mulP (addP a b) (addP a b)) (mulP (subP a b) (subP a b))) (addP (mulP (addP a b) (addP a b)) (mulP (subP (mulP (addP a b) (addP a b)) (mulP (subP a b) (subP a b))) 121665))))) rfl ⟨rfl, h22.old⟩
end Go.Proofs.YtpaendmdcdeemaaDoor
