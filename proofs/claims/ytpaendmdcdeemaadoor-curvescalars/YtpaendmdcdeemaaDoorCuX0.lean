/-
  squared, at, y, None, crossed, doubled: what they answer.
-/
import Derived.Test.YtpaendmdcdeemaaDoorCuB
namespace Go.Proofs.YtpaendmdcdeemaaDoor
open Go.RowKit Num


set_option linter.unusedVariables false in
set_option maxRecDepth 100000 in
set_option maxHeartbeats 2000000 in
theorem squared_any (a : Nat) (ha : a < P) (w : World) (VV : Vars w) :
    Calls Tryd.prog 78 #[arr a] w fun e w' => e = .returned (arr (mulP a a)) ∧ Below w.heap.size w w' := by
  have H0 := HA.start w
  go_enter Tryd.func78, Tryd.ntmps78
  refine wp_seq ?_
  -- region 0
  refine wl_region ?_
  refine wl_make H0 25 (by kernel_rfl) (run_box25 (c := el a) (by kernel_rfl)) ?_
  intro q1 w2 h3
  refine wl_make h3 25 (by kernel_rfl) run_alloc25 ?_
  intro q4 w5 h6
  refine wl_nil ?_
  refine then_at (F := ⟨(arr a :: pt q1 :: pt q4 :: List.replicate 3 un).toArray, []⟩) (by kernel_rfl) ?_
  refine wp_seq ?_
  -- region 1
  refine wl_region ?_
  refine wl_load h6 1 rfl (by kernel_rfl) (by kernel_rfl) Tryd.underlying25 rfl (info_el _) ?_
  refine wl_load h6 1 rfl (by kernel_rfl) (by kernel_rfl) Tryd.underlying25 rfl (info_el _) ?_
  refine wl_call (v := arr (mulP a a)) h6 (by kernel_rfl) enter80 #[arr a, arr a] (by kernel_rfl) (Mul_any a a ha ha w5 (VV.below h6.old VV.big)) ?_
  intro w7 h8
  refine wl_fill (c' := el (mulP a a)) h8 0 rfl (by kernel_rfl) (by kernel_rfl) (by kernel_rfl) (el_sz _ _) (info_el _) (one_el _) ?_
  intro w9 (h10 : HA w [(q4, 25, el (mulP a a)), (q1, 25, el a)] w9)
  refine wl_nil ?_
  refine then_at (F := ⟨(arr a :: pt q1 :: pt q4 :: arr a :: arr a :: arr (mulP a a) :: List.replicate 0 un).toArray, []⟩) (by kernel_rfl) ?_
  refine wp_ret ?_
  repeat first | refine then_ret ?_ | refine block_ret ?_
  exact bodyPost_ret (v := arr (mulP a a)) (res_cell (p := 2) (by kernel_rfl) (by kernel_rfl) (h10.get 0 rfl) Tryd.underlying25 rfl (info_el _)) rfl ⟨rfl, h10.old⟩

set_option linter.unusedVariables false in
set_option maxRecDepth 100000 in
set_option maxHeartbeats 2000000 in
theorem at_any (a b : Nat) (ha : a < P) (hb : b < P) (w : World) (VV : Vars w) :
    Calls Tryd.prog 43 #[arr a, arr b] w fun e w' => e = .returned (.agg (pr a (subP b 1))) ∧ Below w.heap.size w w' := by
  have H0 := HA.start w
  go_enter Tryd.func43, Tryd.ntmps43
  refine wp_seq ?_
  -- region 0
  refine wl_region ?_
  refine wl_make H0 25 (by kernel_rfl) (run_box25 (c := el a) (by kernel_rfl)) ?_
  intro q1 w2 h3
  refine wl_make h3 25 (by kernel_rfl) (run_box25 (c := el b) (by kernel_rfl)) ?_
  intro q4 w5 h6
  refine wl_make h6 27 (by kernel_rfl) run_alloc27 ?_
  intro q7 w8 h9
  refine wl_nil ?_
  refine then_at (F := ⟨(arr a :: arr b :: pt q1 :: pt q4 :: pt q7 :: List.replicate 5 un).toArray, []⟩) (by kernel_rfl) ?_
  refine wp_seq ?_
  -- region 1
  refine wp_region_ghost (fun _ : Nat → Nat => (⟨(arr a :: arr b :: pt q1 :: pt q4 :: pt q7 :: arr a :: arr b :: arr 1 :: arr (subP b 1) :: .agg (pr a (subP b 1)) :: List.replicate 0 un).toArray, []⟩ : Act)) (GF w [(q7, 27, pr 0 0), (q4, 25, el b), (q1, 25, el a)] 5 4 0 q7 27 (pr a (subP b 1))) [arr a, arr b, arr 1, arr (subP b 1), .agg (pr a (subP b 1)), undef] (by kernel_rfl) (by kernel_rfl) (by kernel_rfl) (by kernel_rfl) (fun _ _ _ _ h => h) (fun d hd => GF.start h9.drew (hd 5 (by decide))) ?_ ?_
  · refine AllGhost.cons (gf_load2 2 (by decide) rfl (by decide) (fun _ => by kernel_rfl) (fun _ => by kernel_rfl) (fun _ => by kernel_rfl) Tryd.underlying25 rfl (info_el _)) ?_
    refine AllGhost.cons (gf_load2 1 (by decide) rfl (by decide) (fun _ => by kernel_rfl) (fun _ => by kernel_rfl) (fun _ => by kernel_rfl) Tryd.underlying25 rfl (info_el _)) ?_
    refine AllGhost.cons (gf_callh (v := arr 1) (by decide) (fun _ => by kernel_rfl) (fun _ => by kernel_rfl) enter41 #[iN .u32 1] (fun _ => by kernel_rfl) (fun w' ho => Small_any 1 (by decide) w')) ?_
    refine AllGhost.cons (gf_callh (v := arr (subP b 1)) (by decide) (fun _ => by kernel_rfl) (fun _ => by kernel_rfl) enter79 #[arr b, arr 1] (fun _ => by kernel_rfl) (fun w' ho => Sub_any b 1 hb (by decide) w' (VV.below ho VV.big))) ?_
    refine AllGhost.cons (gf_plain (v := .agg (pr a (subP b 1))) (by decide) (fun _ => by kernel_rfl) (fun _ => by kernel_rfl) (fun _ _ => (run_build27 (a := a) (b := subP b 1) (by kernel_rfl) (by kernel_rfl)))) ?_
    refine AllGhost.cons (gf_fill rfl (pr_sz a (subP b 1) 0 0) (fun _ => by kernel_rfl) (fun _ => by kernel_rfl) (fun _ => by kernel_rfl) (fun _ => by kernel_rfl) (info27p a (subP b 1)) (one_pr a (subP b 1)) (by decide) (by kernel_rfl)) ?_
    exact AllGhost.nil
  intro _ w10 g11
  have h12 : HA w [(q7, 27, pr a (subP b 1)), (q4, 25, el b), (q1, 25, el a)] w10 := g11.held
  clear g11
  refine then_at (F := ⟨(arr a :: arr b :: pt q1 :: pt q4 :: pt q7 :: arr a :: arr b :: arr 1 :: arr (subP b 1) :: .agg (pr a (subP b 1)) :: List.replicate 0 un).toArray, []⟩) (by kernel_rfl) ?_
  refine wp_ret ?_
  repeat first | refine then_ret ?_ | refine block_ret ?_
  exact bodyPost_ret (v := .agg (pr a (subP b 1))) (res_cell (p := 4) (by kernel_rfl) (by kernel_rfl) (h12.get 0 rfl) Tryd.underlying27 rfl (info27p a (subP b 1))) rfl ⟨rfl, h12.old⟩

set_option linter.unusedVariables false in
set_option maxRecDepth 100000 in
set_option maxHeartbeats 2000000 in
theorem y_any (a b : Nat) (hb : b < P) (w : World) (VV : Vars w) :
    Calls Tryd.prog 47 #[.agg (pr a b)] w fun e w' => e = .returned (arr (addP b 1)) ∧ Below w.heap.size w w' := by
  have H0 := HA.start w
  go_enter Tryd.func47, Tryd.ntmps47
  refine wp_seq ?_
  -- region 0
  refine wl_region ?_
  refine wl_make H0 27 (by kernel_rfl) (run_box27 (c := pr a b) (by kernel_rfl)) ?_
  intro q1 w2 h3
  refine wl_make h3 25 (by kernel_rfl) run_alloc25 ?_
  intro q4 w5 h6
  refine wl_nil ?_
  refine then_at (F := ⟨(.agg (pr a b) :: pt q1 :: pt q4 :: List.replicate 4 un).toArray, []⟩) (by kernel_rfl) ?_
  refine wp_seq ?_
  -- region 1
  refine wp_region_ghost (fun _ : Nat → Nat => (⟨(.agg (pr a b) :: pt q1 :: pt q4 :: .pointer (some ⟨q1, 4, none⟩) :: arr b :: arr 1 :: arr (addP b 1) :: List.replicate 0 un).toArray, []⟩ : Act)) (GF w [(q4, 25, el 0), (q1, 27, pr a b)] 4 3 0 q4 25 (el (addP b 1))) [.pointer (some ⟨q1, 4, none⟩), arr b, arr 1, arr (addP b 1), undef] (by kernel_rfl) (by kernel_rfl) (by kernel_rfl) (by kernel_rfl) (fun _ _ _ _ h => h) (fun d hd => GF.start h6.drew (hd 4 (by decide))) ?_ ?_
  · refine AllGhost.cons (gf_plain (v := .pointer (some ⟨q1, 4, none⟩)) (by decide) (fun _ => by kernel_rfl) (fun _ => by kernel_rfl) (fun _ _ => (by kernel_rfl))) ?_
    refine AllGhost.cons (gf_read (v := arr b) 1 (by decide) rfl (by decide) (fun _ => by kernel_rfl) (fun _ => by kernel_rfl) (fun _ _ hb => run_part (q := q1) (off := 4 * 1) (n := b) (by kernel_rfl) hb (fun i _ => pr_get1 a b i))) ?_
    refine AllGhost.cons (gf_callh (v := arr 1) (by decide) (fun _ => by kernel_rfl) (fun _ => by kernel_rfl) enter41 #[iN .u32 1] (fun _ => by kernel_rfl) (fun w' ho => Small_any 1 (by decide) w')) ?_
    refine AllGhost.cons (gf_callh (v := arr (addP b 1)) (by decide) (fun _ => by kernel_rfl) (fun _ => by kernel_rfl) enter87 #[arr b, arr 1] (fun _ => by kernel_rfl) (fun w' ho => Add_any b 1 hb (by decide) w' (VV.below ho VV.big))) ?_
    refine AllGhost.cons (gf_fill rfl (el_sz _ _) (fun _ => by kernel_rfl) (fun _ => by kernel_rfl) (fun _ => by kernel_rfl) (fun _ => by kernel_rfl) (info_el _) (one_el _) (by decide) (by kernel_rfl)) ?_
    exact AllGhost.nil
  intro _ w7 g8
  have h9 : HA w [(q4, 25, el (addP b 1)), (q1, 27, pr a b)] w7 := g8.held
  clear g8
  refine then_at (F := ⟨(.agg (pr a b) :: pt q1 :: pt q4 :: .pointer (some ⟨q1, 4, none⟩) :: arr b :: arr 1 :: arr (addP b 1) :: List.replicate 0 un).toArray, []⟩) (by kernel_rfl) ?_
  refine wp_ret ?_
  repeat first | refine then_ret ?_ | refine block_ret ?_
  exact bodyPost_ret (v := arr (addP b 1)) (res_cell (p := 2) (by kernel_rfl) (by kernel_rfl) (h9.get 0 rfl) Tryd.underlying25 rfl (info_el _)) rfl ⟨rfl, h9.old⟩

set_option linter.unusedVariables false in
set_option maxRecDepth 100000 in
set_option maxHeartbeats 2000000 in
theorem None_any (w : World) :
    Calls Tryd.prog 29 #[] w fun e w' => e = .returned (.agg (pr 0 0)) ∧ Below w.heap.size w w' := by
  have H0 := HA.start w
  go_enter Tryd.func29, Tryd.ntmps29
  refine wp_seq ?_
  -- region 0
  refine wl_region ?_
  refine wl_make H0 27 (by kernel_rfl) run_alloc27 ?_
  intro q1 w2 h3
  refine wl_nil ?_
  refine then_at (F := ⟨(pt q1 :: List.replicate 1 un).toArray, []⟩) (by kernel_rfl) ?_
  refine wp_seq ?_
  -- region 1
  refine wl_region ?_
  refine wl_val (.agg (pr 0 0)) (by kernel_rfl) run_build27z ?_
  refine wl_fill (c' := pr 0 0) h3 0 rfl (by kernel_rfl) (by kernel_rfl) (by kernel_rfl) (pr_sz 0 0 0 0) (info27p 0 0) (one_pr 0 0) ?_
  intro w4 (h5 : HA w [(q1, 27, pr 0 0)] w4)
  refine wl_nil ?_
  refine then_at (F := ⟨(pt q1 :: .agg (pr 0 0) :: List.replicate 0 un).toArray, []⟩) (by kernel_rfl) ?_
  refine wp_ret ?_
  repeat first | refine then_ret ?_ | refine block_ret ?_
  exact bodyPost_ret (v := .agg (pr 0 0)) (res_cell (p := 0) (by kernel_rfl) (by kernel_rfl) (h5.get 0 rfl) Tryd.underlying27 rfl (info27p 0 0)) rfl ⟨rfl, h5.old⟩

set_option linter.unusedVariables false in
set_option maxRecDepth 100000 in
set_option maxHeartbeats 2000000 in
theorem fdouble_any (a b : Nat) (ha : a < P) (hb : b < P) (w : World) (VV : Vars w) :
    Calls Tryd.prog 95 #[.agg (pr a b)] w fun e w' => e = .returned (.agg (pr (mulP (mulP (addP a b) (addP a b)) (mulP (subP a b) (subP a b))) (mulP (subP (mulP (addP a b) (addP a b)) (mulP (subP a b) (subP a b))) (addP (mulP (addP a b) (addP a b)) (mulP (subP (mulP (addP a b) (addP a b)) (mulP (subP a b) (subP a b))) 121665))))) ∧ Below w.heap.size w w' := by
  have H0 := HA.start w
  go_enter Tryd.func95, Tryd.ntmps95
  refine wp_seq ?_
  -- region 0
  refine wl_region ?_
  refine wl_make H0 113 (by kernel_rfl) (run_box113 (c := pr a b) (by kernel_rfl)) ?_
  intro q1 w2 h3
  refine wl_make h3 113 (by kernel_rfl) run_alloc113 ?_
  intro q4 w5 h6
  refine wl_nil ?_
  refine then_at (F := ⟨(.agg (pr a b) :: pt q1 :: pt q4 :: List.replicate 29 un).toArray, []⟩) (by kernel_rfl) ?_
  refine wp_seq ?_
  -- region 1
  obtain ⟨B7, eB7⟩ : ∃ B, B = w5.heap.size := ⟨_, rfl⟩
  refine wp_region_ghost (fun g : Nat → Nat => (⟨(.agg (pr a b) :: pt q1 :: pt q4 :: pt (g 12) :: pt (g 13) :: un :: pt q1 :: arr a :: .pointer (some ⟨q1, 4, none⟩) :: arr b :: arr (addP a b) :: arr (mulP (addP a b) (addP a b)) :: pt q1 :: arr a :: .pointer (some ⟨q1, 4, none⟩) :: arr b :: arr (subP a b) :: arr (mulP (subP a b) (subP a b)) :: List.replicate 14 un).toArray, []⟩ : Act)) (GS w [(q4, 113, pr 0 0), (q1, 113, pr a b)] B7 2 12 14 25 (el 0) (fun j => match j with | 0 => el (mulP (addP a b) (addP a b)) | _ => el (mulP (subP a b) (subP a b)))) [.pointer (some ⟨q1, 0, none⟩), arr a, .pointer (some ⟨q1, 4, none⟩), arr b, arr (addP a b), arr (mulP (addP a b) (addP a b)), .pointer (some ⟨q1, 0, none⟩), arr a, .pointer (some ⟨q1, 4, none⟩), arr b, arr (subP a b), arr (mulP (subP a b) (subP a b)), .pointer (some ⟨0, 0, none⟩), .pointer (some ⟨0, 0, none⟩), undef, undef] (by kernel_rfl) (by kernel_rfl) (by kernel_rfl) (by kernel_rfl) (fun _ _ _ _ h => h) (fun d hd => GS.start h6.drew eB7 (by decide) (fun j _ => by rcases j with _ | j <;> exact (el_sz _ _)) (fun j hj => hd j (Nat.lt_of_lt_of_le hj (by decide)))) ?_ ?_
  · refine AllGhost.cons (ghost_plain (v := .pointer (some ⟨q1, 0, none⟩)) (by decide) (fun _ => by kernel_rfl) (fun _ => by kernel_rfl) (fun _ _ => (by kernel_rfl))) ?_
    refine AllGhost.cons (ghost_held (v := arr a) (by decide) (fun _ => by kernel_rfl) (fun _ => by kernel_rfl) (fun _ w' h' => run_part (q := q1) (off := 4 * 0) (n := a) (by kernel_rfl) (h'.get 1 rfl) (fun i hi => pr_get0 a b i hi))) ?_
    refine AllGhost.cons (ghost_plain (v := .pointer (some ⟨q1, 4, none⟩)) (by decide) (fun _ => by kernel_rfl) (fun _ => by kernel_rfl) (fun _ _ => (by kernel_rfl))) ?_
    refine AllGhost.cons (ghost_held (v := arr b) (by decide) (fun _ => by kernel_rfl) (fun _ => by kernel_rfl) (fun _ w' h' => run_part (q := q1) (off := 4 * 1) (n := b) (by kernel_rfl) (h'.get 1 rfl) (fun i _ => pr_get1 a b i))) ?_
    refine AllGhost.cons (ghost_call (v := arr (addP a b)) (by decide) (fun _ => by kernel_rfl) (fun _ => by kernel_rfl) enter87 #[arr a, arr b] (fun _ => by kernel_rfl) (fun w' h' => Add_any a b ha hb w' (VV.below h'.old VV.big))) ?_
    refine AllGhost.cons (ghost_call (v := arr (mulP (addP a b) (addP a b))) (by decide) (fun _ => by kernel_rfl) (fun _ => by kernel_rfl) enter78 #[arr (addP a b)] (fun _ => by kernel_rfl) (fun w' h' => squared_any (addP a b) (addP_lt _ _) w' (VV.below h'.old VV.big))) ?_
    refine AllGhost.cons (ghost_plain (v := .pointer (some ⟨q1, 0, none⟩)) (by decide) (fun _ => by kernel_rfl) (fun _ => by kernel_rfl) (fun _ _ => (by kernel_rfl))) ?_
    refine AllGhost.cons (ghost_held (v := arr a) (by decide) (fun _ => by kernel_rfl) (fun _ => by kernel_rfl) (fun _ w' h' => run_part (q := q1) (off := 4 * 0) (n := a) (by kernel_rfl) (h'.get 1 rfl) (fun i hi => pr_get0 a b i hi))) ?_
    refine AllGhost.cons (ghost_plain (v := .pointer (some ⟨q1, 4, none⟩)) (by decide) (fun _ => by kernel_rfl) (fun _ => by kernel_rfl) (fun _ _ => (by kernel_rfl))) ?_
    refine AllGhost.cons (ghost_held (v := arr b) (by decide) (fun _ => by kernel_rfl) (fun _ => by kernel_rfl) (fun _ w' h' => run_part (q := q1) (off := 4 * 1) (n := b) (by kernel_rfl) (h'.get 1 rfl) (fun i _ => pr_get1 a b i))) ?_
    refine AllGhost.cons (ghost_call (v := arr (subP a b)) (by decide) (fun _ => by kernel_rfl) (fun _ => by kernel_rfl) enter79 #[arr a, arr b] (fun _ => by kernel_rfl) (fun w' h' => Sub_any a b ha hb w' (VV.below h'.old VV.big))) ?_
    refine AllGhost.cons (ghost_call (v := arr (mulP (subP a b) (subP a b))) (by decide) (fun _ => by kernel_rfl) (fun _ => by kernel_rfl) enter78 #[arr (subP a b)] (fun _ => by kernel_rfl) (fun w' h' => squared_any (subP a b) (subP_lt _ _) w' (VV.below h'.old VV.big))) ?_
    refine AllGhost.cons (ghost_make 0 (by decide) rfl (fun _ => by kernel_rfl) (fun _ _ => by kernel_rfl) (fun _ _ => run_alloc25)) ?_
    refine AllGhost.cons (ghost_make 1 (by decide) rfl (fun _ => by kernel_rfl) (fun _ _ => by kernel_rfl) (fun _ _ => run_alloc25)) ?_
    refine AllGhost.cons (ghost_fill 0 (by decide) rfl (fun _ => by kernel_rfl) (fun _ => by kernel_rfl) (fun _ => by kernel_rfl) (fun _ => by kernel_rfl) (info_el _) (one_el _) (by kernel_rfl)) ?_
    refine AllGhost.cons (ghost_fill 1 (by decide) rfl (fun _ => by kernel_rfl) (fun _ => by kernel_rfl) (fun _ => by kernel_rfl) (fun _ => by kernel_rfl) (info_el _) (one_el _) (by kernel_rfl)) ?_
    exact AllGhost.nil
  intro g w8 g9
  have h10 : HA w [(g 13, 25, el (mulP (subP a b) (subP a b))), (g 12, 25, el (mulP (addP a b) (addP a b))), (q4, 113, pr 0 0), (q1, 113, pr a b)] w8 := g9.two
  clear g9 eB7
  generalize g 12 = q11 at h10 ⊢
  generalize g 13 = q12 at h10 ⊢
  clear g
  refine then_at (F := ⟨(.agg (pr a b) :: pt q1 :: pt q4 :: pt q11 :: pt q12 :: un :: pt q1 :: arr a :: .pointer (some ⟨q1, 4, none⟩) :: arr b :: arr (addP a b) :: arr (mulP (addP a b) (addP a b)) :: pt q1 :: arr a :: .pointer (some ⟨q1, 4, none⟩) :: arr b :: arr (subP a b) :: arr (mulP (subP a b) (subP a b)) :: List.replicate 14 un).toArray, []⟩) (by kernel_rfl) ?_
  refine wp_seq ?_
  -- region 2
  refine wl_region ?_
  refine wl_load h10 1 rfl (by kernel_rfl) (by kernel_rfl) Tryd.underlying25 rfl (info_el _) ?_
  refine wl_load h10 0 rfl (by kernel_rfl) (by kernel_rfl) Tryd.underlying25 rfl (info_el _) ?_
  refine wl_call (v := arr (subP (mulP (addP a b) (addP a b)) (mulP (subP a b) (subP a b)))) h10 (by kernel_rfl) enter79 #[arr (mulP (addP a b) (addP a b)), arr (mulP (subP a b) (subP a b))] (by kernel_rfl) (Sub_any (mulP (addP a b) (addP a b)) (mulP (subP a b) (subP a b)) (mulP_lt _ _) (mulP_lt _ _) w8 (VV.below h10.old VV.big)) ?_
  intro w13 h14
  refine wl_make h14 25 (by kernel_rfl) run_alloc25 ?_
  intro q15 w16 h17
  refine wl_fill (c' := el (subP (mulP (addP a b) (addP a b)) (mulP (subP a b) (subP a b)))) h17 0 rfl (by kernel_rfl) (by kernel_rfl) (by kernel_rfl) (el_sz _ _) (info_el _) (one_el _) ?_
  intro w18 (h19 : HA w [(q15, 25, el (subP (mulP (addP a b) (addP a b)) (mulP (subP a b) (subP a b)))), (q12, 25, el (mulP (subP a b) (subP a b))), (q11, 25, el (mulP (addP a b) (addP a b))), (q4, 113, pr 0 0), (q1, 113, pr a b)] w18)
  refine wl_nil ?_
  refine then_at (F := ⟨(.agg (pr a b) :: pt q1 :: pt q4 :: pt q11 :: pt q12 :: pt q15 :: pt q1 :: arr a :: .pointer (some ⟨q1, 4, none⟩) :: arr b :: arr (addP a b) :: arr (mulP (addP a b) (addP a b)) :: pt q1 :: arr a :: .pointer (some ⟨q1, 4, none⟩) :: arr b :: arr (subP a b) :: arr (mulP (subP a b) (subP a b)) :: arr (mulP (addP a b) (addP a b)) :: arr (mulP (subP a b) (subP a b)) :: arr (subP (mulP (addP a b) (addP a b)) (mulP (subP a b) (subP a b))) :: List.replicate 11 un).toArray, []⟩) (by kernel_rfl) ?_
  refine wp_seq ?_
  -- region 3
  refine wp_region_ghost (fun _ : Nat → Nat => (⟨(.agg (pr a b) :: pt q1 :: pt q4 :: pt q11 :: pt q12 :: pt q15 :: pt q1 :: arr a :: .pointer (some ⟨q1, 4, none⟩) :: arr b :: arr (addP a b) :: arr (mulP (addP a b) (addP a b)) :: pt q1 :: arr a :: .pointer (some ⟨q1, 4, none⟩) :: arr b :: arr (subP a b) :: arr (mulP (subP a b) (subP a b)) :: arr (mulP (addP a b) (addP a b)) :: arr (mulP (subP a b) (subP a b)) :: arr (subP (mulP (addP a b) (addP a b)) (mulP (subP a b) (subP a b))) :: arr (mulP (addP a b) (addP a b)) :: arr (mulP (subP a b) (subP a b)) :: arr (mulP (mulP (addP a b) (addP a b)) (mulP (subP a b) (subP a b))) :: arr (subP (mulP (addP a b) (addP a b)) (mulP (subP a b) (subP a b))) :: arr (mulP (addP a b) (addP a b)) :: arr (subP (mulP (addP a b) (addP a b)) (mulP (subP a b) (subP a b))) :: arr 121665 :: arr (mulP (subP (mulP (addP a b) (addP a b)) (mulP (subP a b) (subP a b))) 121665) :: arr (addP (mulP (addP a b) (addP a b)) (mulP (subP (mulP (addP a b) (addP a b)) (mulP (subP a b) (subP a b))) 121665)) :: arr (mulP (subP (mulP (addP a b) (addP a b)) (mulP (subP a b) (subP a b))) (addP (mulP (addP a b) (addP a b)) (mulP (subP (mulP (addP a b) (addP a b)) (mulP (subP a b) (subP a b))) 121665))) :: .agg (pr (mulP (mulP (addP a b) (addP a b)) (mulP (subP a b) (subP a b))) (mulP (subP (mulP (addP a b) (addP a b)) (mulP (subP a b) (subP a b))) (addP (mulP (addP a b) (addP a b)) (mulP (subP (mulP (addP a b) (addP a b)) (mulP (subP a b) (subP a b))) 121665)))) :: List.replicate 0 un).toArray, []⟩ : Act)) (GF w [(q15, 25, el (subP (mulP (addP a b) (addP a b)) (mulP (subP a b) (subP a b)))), (q12, 25, el (mulP (subP a b) (subP a b))), (q11, 25, el (mulP (addP a b) (addP a b))), (q4, 113, pr 0 0), (q1, 113, pr a b)] 11 10 3 q4 113 (pr (mulP (mulP (addP a b) (addP a b)) (mulP (subP a b) (subP a b))) (mulP (subP (mulP (addP a b) (addP a b)) (mulP (subP a b) (subP a b))) (addP (mulP (addP a b) (addP a b)) (mulP (subP (mulP (addP a b) (addP a b)) (mulP (subP a b) (subP a b))) 121665))))) [arr (mulP (addP a b) (addP a b)), arr (mulP (subP a b) (subP a b)), arr (mulP (mulP (addP a b) (addP a b)) (mulP (subP a b) (subP a b))), arr (subP (mulP (addP a b) (addP a b)) (mulP (subP a b) (subP a b))), arr (mulP (addP a b) (addP a b)), arr (subP (mulP (addP a b) (addP a b)) (mulP (subP a b) (subP a b))), arr 121665, arr (mulP (subP (mulP (addP a b) (addP a b)) (mulP (subP a b) (subP a b))) 121665), arr (addP (mulP (addP a b) (addP a b)) (mulP (subP (mulP (addP a b) (addP a b)) (mulP (subP a b) (subP a b))) 121665)), arr (mulP (subP (mulP (addP a b) (addP a b)) (mulP (subP a b) (subP a b))) (addP (mulP (addP a b) (addP a b)) (mulP (subP (mulP (addP a b) (addP a b)) (mulP (subP a b) (subP a b))) 121665))), .agg (pr (mulP (mulP (addP a b) (addP a b)) (mulP (subP a b) (subP a b))) (mulP (subP (mulP (addP a b) (addP a b)) (mulP (subP a b) (subP a b))) (addP (mulP (addP a b) (addP a b)) (mulP (subP (mulP (addP a b) (addP a b)) (mulP (subP a b) (subP a b))) 121665)))), undef] (by kernel_rfl) (by kernel_rfl) (by kernel_rfl) (by kernel_rfl) (fun _ _ _ _ h => h) (fun d hd => GF.start h19.drew (hd 11 (by decide))) ?_ ?_
  · refine AllGhost.cons (gf_load2 2 (by decide) rfl (by decide) (fun _ => by kernel_rfl) (fun _ => by kernel_rfl) (fun _ => by kernel_rfl) Tryd.underlying25 rfl (info_el _)) ?_
    refine AllGhost.cons (gf_load2 1 (by decide) rfl (by decide) (fun _ => by kernel_rfl) (fun _ => by kernel_rfl) (fun _ => by kernel_rfl) Tryd.underlying25 rfl (info_el _)) ?_
    refine AllGhost.cons (gf_callh (v := arr (mulP (mulP (addP a b) (addP a b)) (mulP (subP a b) (subP a b)))) (by decide) (fun _ => by kernel_rfl) (fun _ => by kernel_rfl) enter80 #[arr (mulP (addP a b) (addP a b)), arr (mulP (subP a b) (subP a b))] (fun _ => by kernel_rfl) (fun w' ho => Mul_any (mulP (addP a b) (addP a b)) (mulP (subP a b) (subP a b)) (mulP_lt _ _) (mulP_lt _ _) w' (VV.below ho VV.big))) ?_
    refine AllGhost.cons (gf_load2 0 (by decide) rfl (by decide) (fun _ => by kernel_rfl) (fun _ => by kernel_rfl) (fun _ => by kernel_rfl) Tryd.underlying25 rfl (info_el _)) ?_
    refine AllGhost.cons (gf_load2 2 (by decide) rfl (by decide) (fun _ => by kernel_rfl) (fun _ => by kernel_rfl) (fun _ => by kernel_rfl) Tryd.underlying25 rfl (info_el _)) ?_
    refine AllGhost.cons (gf_load2 0 (by decide) rfl (by decide) (fun _ => by kernel_rfl) (fun _ => by kernel_rfl) (fun _ => by kernel_rfl) Tryd.underlying25 rfl (info_el _)) ?_
    refine AllGhost.cons (gf_callh (v := arr 121665) (by decide) (fun _ => by kernel_rfl) (fun _ => by kernel_rfl) enter41 #[iN .u32 121665] (fun _ => by kernel_rfl) (fun w' ho => Small_any 121665 (by decide) w')) ?_
    refine AllGhost.cons (gf_callh (v := arr (mulP (subP (mulP (addP a b) (addP a b)) (mulP (subP a b) (subP a b))) 121665)) (by decide) (fun _ => by kernel_rfl) (fun _ => by kernel_rfl) enter80 #[arr (subP (mulP (addP a b) (addP a b)) (mulP (subP a b) (subP a b))), arr 121665] (fun _ => by kernel_rfl) (fun w' ho => Mul_any (subP (mulP (addP a b) (addP a b)) (mulP (subP a b) (subP a b))) 121665 (subP_lt _ _) (by decide) w' (VV.below ho VV.big))) ?_
    refine AllGhost.cons (gf_callh (v := arr (addP (mulP (addP a b) (addP a b)) (mulP (subP (mulP (addP a b) (addP a b)) (mulP (subP a b) (subP a b))) 121665))) (by decide) (fun _ => by kernel_rfl) (fun _ => by kernel_rfl) enter87 #[arr (mulP (addP a b) (addP a b)), arr (mulP (subP (mulP (addP a b) (addP a b)) (mulP (subP a b) (subP a b))) 121665)] (fun _ => by kernel_rfl) (fun w' ho => Add_any (mulP (addP a b) (addP a b)) (mulP (subP (mulP (addP a b) (addP a b)) (mulP (subP a b) (subP a b))) 121665) (mulP_lt _ _) (mulP_lt _ _) w' (VV.below ho VV.big))) ?_
    refine AllGhost.cons (gf_callh (v := arr (mulP (subP (mulP (addP a b) (addP a b)) (mulP (subP a b) (subP a b))) (addP (mulP (addP a b) (addP a b)) (mulP (subP (mulP (addP a b) (addP a b)) (mulP (subP a b) (subP a b))) 121665)))) (by decide) (fun _ => by kernel_rfl) (fun _ => by kernel_rfl) enter80 #[arr (subP (mulP (addP a b) (addP a b)) (mulP (subP a b) (subP a b))), arr (addP (mulP (addP a b) (addP a b)) (mulP (subP (mulP (addP a b) (addP a b)) (mulP (subP a b) (subP a b))) 121665))] (fun _ => by kernel_rfl) (fun w' ho => Mul_any (subP (mulP (addP a b) (addP a b)) (mulP (subP a b) (subP a b))) (addP (mulP (addP a b) (addP a b)) (mulP (subP (mulP (addP a b) (addP a b)) (mulP (subP a b) (subP a b))) 121665)) (subP_lt _ _) (addP_lt _ _) w' (VV.below ho VV.big))) ?_
    refine AllGhost.cons (gf_plain (v := .agg (pr (mulP (mulP (addP a b) (addP a b)) (mulP (subP a b) (subP a b))) (mulP (subP (mulP (addP a b) (addP a b)) (mulP (subP a b) (subP a b))) (addP (mulP (addP a b) (addP a b)) (mulP (subP (mulP (addP a b) (addP a b)) (mulP (subP a b) (subP a b))) 121665))))) (by decide) (fun _ => by kernel_rfl) (fun _ => by kernel_rfl) (fun _ _ => (run_build113 (a := mulP (mulP (addP a b) (addP a b)) (mulP (subP a b) (subP a b))) (b := mulP (subP (mulP (addP a b) (addP a b)) (mulP (subP a b) (subP a b))) (addP (mulP (addP a b) (addP a b)) (mulP (subP (mulP (addP a b) (addP a b)) (mulP (subP a b) (subP a b))) 121665))) (by kernel_rfl) (by kernel_rfl)))) ?_
    refine AllGhost.cons (gf_fill rfl (pr_sz (mulP (mulP (addP a b) (addP a b)) (mulP (subP a b) (subP a b))) (mulP (subP (mulP (addP a b) (addP a b)) (mulP (subP a b) (subP a b))) (addP (mulP (addP a b) (addP a b)) (mulP (subP (mulP (addP a b) (addP a b)) (mulP (subP a b) (subP a b))) 121665))) 0 0) (fun _ => by kernel_rfl) (fun _ => by kernel_rfl) (fun _ => by kernel_rfl) (fun _ => by kernel_rfl) (info113p (mulP (mulP (addP a b) (addP a b)) (mulP (subP a b) (subP a b))) (mulP (subP (mulP (addP a b) (addP a b)) (mulP (subP a b) (subP a b))) (addP (mulP (addP a b) (addP a b)) (mulP (subP (mulP (addP a b) (addP a b)) (mulP (subP a b) (subP a b))) 121665)))) (one_pr (mulP (mulP (addP a b) (addP a b)) (mulP (subP a b) (subP a b))) (mulP (subP (mulP (addP a b) (addP a b)) (mulP (subP a b) (subP a b))) (addP (mulP (addP a b) (addP a b)) (mulP (subP (mulP (addP a b) (addP a b)) (mulP (subP a b) (subP a b))) 121665)))) (by decide) (by kernel_rfl)) ?_
    exact AllGhost.nil
  intro _ w20 g21
  have h22 : HA w [(q15, 25, el (subP (mulP (addP a b) (addP a b)) (mulP (subP a b) (subP a b)))), (q12, 25, el (mulP (subP a b) (subP a b))), (q11, 25, el (mulP (addP a b) (addP a b))), (q4, 113, pr (mulP (mulP (addP a b) (addP a b)) (mulP (subP a b) (subP a b))) (mulP (subP (mulP (addP a b) (addP a b)) (mulP (subP a b) (subP a b))) (addP (mulP (addP a b) (addP a b)) (mulP (subP (mulP (addP a b) (addP a b)) (mulP (subP a b) (subP a b))) 121665)))), (q1, 113, pr a b)] w20 := g21.held
  clear g21
  refine then_at (F := ⟨(.agg (pr a b) :: pt q1 :: pt q4 :: pt q11 :: pt q12 :: pt q15 :: pt q1 :: arr a :: .pointer (some ⟨q1, 4, none⟩) :: arr b :: arr (addP a b) :: arr (mulP (addP a b) (addP a b)) :: pt q1 :: arr a :: .pointer (some ⟨q1, 4, none⟩) :: arr b :: arr (subP a b) :: arr (mulP (subP a b) (subP a b)) :: arr (mulP (addP a b) (addP a b)) :: arr (mulP (subP a b) (subP a b)) :: arr (subP (mulP (addP a b) (addP a b)) (mulP (subP a b) (subP a b))) :: arr (mulP (addP a b) (addP a b)) :: arr (mulP (subP a b) (subP a b)) :: arr (mulP (mulP (addP a b) (addP a b)) (mulP (subP a b) (subP a b))) :: arr (subP (mulP (addP a b) (addP a b)) (mulP (subP a b) (subP a b))) :: arr (mulP (addP a b) (addP a b)) :: arr (subP (mulP (addP a b) (addP a b)) (mulP (subP a b) (subP a b))) :: arr 121665 :: arr (mulP (subP (mulP (addP a b) (addP a b)) (mulP (subP a b) (subP a b))) 121665) :: arr (addP (mulP (addP a b) (addP a b)) (mulP (subP (mulP (addP a b) (addP a b)) (mulP (subP a b) (subP a b))) 121665)) :: arr (mulP (subP (mulP (addP a b) (addP a b)) (mulP (subP a b) (subP a b))) (addP (mulP (addP a b) (addP a b)) (mulP (subP (mulP (addP a b) (addP a b)) (mulP (subP a b) (subP a b))) 121665))) :: .agg (pr (mulP (mulP (addP a b) (addP a b)) (mulP (subP a b) (subP a b))) (mulP (subP (mulP (addP a b) (addP a b)) (mulP (subP a b) (subP a b))) (addP (mulP (addP a b) (addP a b)) (mulP (subP (mulP (addP a b) (addP a b)) (mulP (subP a b) (subP a b))) 121665)))) :: List.replicate 0 un).toArray, []⟩) (by kernel_rfl) ?_
  refine wp_ret ?_
  repeat first | refine then_ret ?_ | refine block_ret ?_
  exact bodyPost_ret (v := .agg (pr (mulP (mulP (addP a b) (addP a b)) (mulP (subP a b) (subP a b))) (mulP (subP (mulP (addP a b) (addP a b)) (mulP (subP a b) (subP a b))) (addP (mulP (addP a b) (addP a b)) (mulP (subP (mulP (addP a b) (addP a b)) (mulP (subP a b) (subP a b))) 121665))))) (res_cell (p := 2) (by kernel_rfl) (by kernel_rfl) (h22.get 3 rfl) Tryd.underlying113 rfl (info113p (mulP (mulP (addP a b) (addP a b)) (mulP (subP a b) (subP a b))) (mulP (subP (mulP (addP a b) (addP a b)) (mulP (subP a b) (subP a b))) (addP (mulP (addP a b) (addP a b)) (mulP (subP (mulP (addP a b) (addP a b)) (mulP (subP a b) (subP a b))) 121665))))) rfl ⟨rfl, h22.old⟩
end Go.Proofs.YtpaendmdcdeemaaDoor

namespace Go.Proofs.YtpaendmdcdeemaaDoor
open Go.RowKit Num


set_option linter.unusedVariables false in
set_option maxRecDepth 100000 in
set_option maxHeartbeats 2000000 in
theorem crossed_any (a b c d : Nat) (ha : a < P) (hb : b < P) (hc : c < P) (hd : d < P) (w : World) (VV : Vars w) :
    Calls Tryd.prog 92 #[arr a, arr b, arr c, arr d] w fun e w' => e = .returned (.agg (qd (mulP a b) (mulP c d) (mulP b c) (mulP a d))) ∧ Below w.heap.size w w' := by
  have H0 := HA.start w
  go_enter Tryd.func92, Tryd.ntmps92
  refine wp_seq ?_
  -- region 0
  refine wl_region ?_
  refine wl_make H0 25 (by kernel_rfl) (run_box25 (c := el a) (by kernel_rfl)) ?_
  intro q1 w2 h3
  refine wl_make h3 25 (by kernel_rfl) (run_box25 (c := el b) (by kernel_rfl)) ?_
  intro q4 w5 h6
  refine wl_make h6 25 (by kernel_rfl) (run_box25 (c := el c) (by kernel_rfl)) ?_
  intro q7 w8 h9
  refine wl_make h9 25 (by kernel_rfl) (run_box25 (c := el d) (by kernel_rfl)) ?_
  intro q10 w11 h12
  refine wl_make h12 82 (by kernel_rfl) run_alloc82 ?_
  intro q13 w14 h15
  refine wl_nil ?_
  refine then_at (F := ⟨(arr a :: arr b :: arr c :: arr d :: pt q1 :: pt q4 :: pt q7 :: pt q10 :: pt q13 :: List.replicate 13 un).toArray, []⟩) (by kernel_rfl) ?_
  refine wp_seq ?_
  -- region 1
  obtain ⟨C16, hC16⟩ : ∃ C, C = qd (mulP a b) (mulP c d) (mulP b c) (mulP a d) := ⟨_, rfl⟩
  refine wp_region_ghost (fun _ : Nat → Nat => (⟨(arr a :: arr b :: arr c :: arr d :: pt q1 :: pt q4 :: pt q7 :: pt q10 :: pt q13 :: arr a :: arr b :: arr (mulP a b) :: arr c :: arr d :: arr (mulP c d) :: arr b :: arr c :: arr (mulP b c) :: arr a :: arr d :: arr (mulP a d) :: .agg C16 :: List.replicate 0 un).toArray, []⟩ : Act)) (GF w [(q13, 82, qd 0 0 0 0), (q10, 25, el d), (q7, 25, el c), (q4, 25, el b), (q1, 25, el a)] 13 12 0 q13 82 (C16)) [arr a, arr b, arr (mulP a b), arr c, arr d, arr (mulP c d), arr b, arr c, arr (mulP b c), arr a, arr d, arr (mulP a d), .agg C16, undef] (by kernel_rfl) (by kernel_rfl) (by kernel_rfl) (by kernel_rfl) (fun _ _ _ _ h => h) (fun d hd => GF.start h15.drew (hd 13 (by decide))) ?_ ?_
  · refine AllGhost.cons (gf_load2 4 (by decide) rfl (by decide) (fun _ => by kernel_rfl) (fun _ => by kernel_rfl) (fun _ => by kernel_rfl) Tryd.underlying25 rfl (info_el _)) ?_
    refine AllGhost.cons (gf_load2 3 (by decide) rfl (by decide) (fun _ => by kernel_rfl) (fun _ => by kernel_rfl) (fun _ => by kernel_rfl) Tryd.underlying25 rfl (info_el _)) ?_
    refine AllGhost.cons (gf_callh (v := arr (mulP a b)) (by decide) (fun _ => by kernel_rfl) (fun _ => by kernel_rfl) enter80 #[arr a, arr b] (fun _ => by kernel_rfl) (fun w' ho => Mul_any a b ha hb w' (VV.below ho VV.big))) ?_
    refine AllGhost.cons (gf_load2 2 (by decide) rfl (by decide) (fun _ => by kernel_rfl) (fun _ => by kernel_rfl) (fun _ => by kernel_rfl) Tryd.underlying25 rfl (info_el _)) ?_
    refine AllGhost.cons (gf_load2 1 (by decide) rfl (by decide) (fun _ => by kernel_rfl) (fun _ => by kernel_rfl) (fun _ => by kernel_rfl) Tryd.underlying25 rfl (info_el _)) ?_
    refine AllGhost.cons (gf_callh (v := arr (mulP c d)) (by decide) (fun _ => by kernel_rfl) (fun _ => by kernel_rfl) enter80 #[arr c, arr d] (fun _ => by kernel_rfl) (fun w' ho => Mul_any c d hc hd w' (VV.below ho VV.big))) ?_
    refine AllGhost.cons (gf_load2 3 (by decide) rfl (by decide) (fun _ => by kernel_rfl) (fun _ => by kernel_rfl) (fun _ => by kernel_rfl) Tryd.underlying25 rfl (info_el _)) ?_
    refine AllGhost.cons (gf_load2 2 (by decide) rfl (by decide) (fun _ => by kernel_rfl) (fun _ => by kernel_rfl) (fun _ => by kernel_rfl) Tryd.underlying25 rfl (info_el _)) ?_
    refine AllGhost.cons (gf_callh (v := arr (mulP b c)) (by decide) (fun _ => by kernel_rfl) (fun _ => by kernel_rfl) enter80 #[arr b, arr c] (fun _ => by kernel_rfl) (fun w' ho => Mul_any b c hb hc w' (VV.below ho VV.big))) ?_
    refine AllGhost.cons (gf_load2 4 (by decide) rfl (by decide) (fun _ => by kernel_rfl) (fun _ => by kernel_rfl) (fun _ => by kernel_rfl) Tryd.underlying25 rfl (info_el _)) ?_
    refine AllGhost.cons (gf_load2 1 (by decide) rfl (by decide) (fun _ => by kernel_rfl) (fun _ => by kernel_rfl) (fun _ => by kernel_rfl) Tryd.underlying25 rfl (info_el _)) ?_
    refine AllGhost.cons (gf_callh (v := arr (mulP a d)) (by decide) (fun _ => by kernel_rfl) (fun _ => by kernel_rfl) enter80 #[arr a, arr d] (fun _ => by kernel_rfl) (fun w' ho => Mul_any a d ha hd w' (VV.below ho VV.big))) ?_
    refine AllGhost.cons (gf_plain (v := .agg C16) (by decide) (fun _ => by kernel_rfl) (fun _ => by kernel_rfl) (fun _ _ => (by rw [hC16]; exact (run_build82 (a := mulP a b) (b := mulP c d) (c := mulP b c) (d := mulP a d) (by kernel_rfl) (by kernel_rfl) (by kernel_rfl) (by kernel_rfl))))) ?_
    refine AllGhost.cons (gf_fill rfl (by rw [hC16]; exact (qd_sz (mulP a b) (mulP c d) (mulP b c) (mulP a d) 0 0 0 0)) (fun _ => by kernel_rfl) (fun _ => by kernel_rfl) (fun _ => by kernel_rfl) (fun _ => by kernel_rfl) (by rw [hC16]; exact (info82q (mulP a b) (mulP c d) (mulP b c) (mulP a d))) (by rw [hC16]; exact (one_qd (mulP a b) (mulP c d) (mulP b c) (mulP a d))) (by decide) (by kernel_rfl)) ?_
    exact AllGhost.nil
  intro _ w17 g18
  have h19 : HA w [(q13, 82, C16), (q10, 25, el d), (q7, 25, el c), (q4, 25, el b), (q1, 25, el a)] w17 := g18.held
  clear g18
  subst hC16
  refine then_at (F := ⟨(arr a :: arr b :: arr c :: arr d :: pt q1 :: pt q4 :: pt q7 :: pt q10 :: pt q13 :: arr a :: arr b :: arr (mulP a b) :: arr c :: arr d :: arr (mulP c d) :: arr b :: arr c :: arr (mulP b c) :: arr a :: arr d :: arr (mulP a d) :: .agg (qd (mulP a b) (mulP c d) (mulP b c) (mulP a d)) :: List.replicate 0 un).toArray, []⟩) (by kernel_rfl) ?_
  refine wp_ret ?_
  repeat first | refine then_ret ?_ | refine block_ret ?_
  exact bodyPost_ret (v := .agg (qd (mulP a b) (mulP c d) (mulP b c) (mulP a d))) (res_cell (p := 8) (by kernel_rfl) (by kernel_rfl) (h19.get 0 rfl) Tryd.underlying82 rfl (info82q (mulP a b) (mulP c d) (mulP b c) (mulP a d))) rfl ⟨rfl, h19.old⟩

set_option linter.unusedVariables false in
set_option maxRecDepth 100000 in
set_option maxHeartbeats 2000000 in
theorem wdouble_any (a b c d : Nat) (ha : a < P) (hb : b < P) (hc : c < P) (hd : d < P) (w : World) (VV : Vars w) :
    Calls Tryd.prog 61 #[.agg (qd a b c d)] w fun e w' => e = .returned (.agg (qd (mulP (subP (mulP (addP a b) (addP a b)) (addP (mulP a a) (mulP b b))) (subP (subP (mulP b b) (mulP a a)) (addP (mulP c c) (mulP c c)))) (mulP (subP (mulP b b) (mulP a a)) (negP (addP (mulP a a) (mulP b b)))) (mulP (subP (subP (mulP b b) (mulP a a)) (addP (mulP c c) (mulP c c))) (subP (mulP b b) (mulP a a))) (mulP (subP (mulP (addP a b) (addP a b)) (addP (mulP a a) (mulP b b))) (negP (addP (mulP a a) (mulP b b)))))) ∧ Below w.heap.size w w' := by
  have H0 := HA.start w
  go_enter Tryd.func61, Tryd.ntmps61
  refine wp_seq ?_
  -- region 0
  refine wl_region ?_
  refine wl_make H0 82 (by kernel_rfl) (run_box82 (c := qd a b c d) (by kernel_rfl)) ?_
  intro q1 w2 h3
  refine wl_make h3 82 (by kernel_rfl) run_alloc82 ?_
  intro q4 w5 h6
  refine wl_nil ?_
  refine then_at (F := ⟨(.agg (qd a b c d) :: pt q1 :: pt q4 :: List.replicate 37 un).toArray, []⟩) (by kernel_rfl) ?_
  refine wp_seq ?_
  -- region 1
  obtain ⟨B7, eB7⟩ : ∃ B, B = w5.heap.size := ⟨_, rfl⟩
  refine wp_region_ghost (fun g : Nat → Nat => (⟨(.agg (qd a b c d) :: pt q1 :: pt q4 :: pt (g 9) :: pt (g 10) :: pt (g 11) :: un :: un :: pt q1 :: arr a :: arr (mulP a a) :: .pointer (some ⟨q1, 4, none⟩) :: arr b :: arr (mulP b b) :: .pointer (some ⟨q1, 8, none⟩) :: arr c :: arr (mulP c c) :: List.replicate 23 un).toArray, []⟩ : Act)) (GS w [(q4, 82, qd 0 0 0 0), (q1, 82, qd a b c d)] B7 3 9 12 25 (el 0) (fun j => match j with | 0 => el (mulP a a) | 1 => el (mulP b b) | _ => el (mulP c c))) [.pointer (some ⟨q1, 0, none⟩), arr a, arr (mulP a a), .pointer (some ⟨q1, 4, none⟩), arr b, arr (mulP b b), .pointer (some ⟨q1, 8, none⟩), arr c, arr (mulP c c), .pointer (some ⟨0, 0, none⟩), .pointer (some ⟨0, 0, none⟩), .pointer (some ⟨0, 0, none⟩), undef, undef, undef] (by kernel_rfl) (by kernel_rfl) (by kernel_rfl) (by kernel_rfl) (fun _ _ _ _ h => h) (fun d hd => GS.start h6.drew eB7 (by decide) (fun j _ => by rcases j with _ | _ | j <;> exact (el_sz _ _)) (fun j hj => hd j (Nat.lt_of_lt_of_le hj (by decide)))) ?_ ?_
  · refine AllGhost.cons (ghost_plain (v := .pointer (some ⟨q1, 0, none⟩)) (by decide) (fun _ => by kernel_rfl) (fun _ => by kernel_rfl) (fun _ _ => (by kernel_rfl))) ?_
    refine AllGhost.cons (ghost_held (v := arr a) (by decide) (fun _ => by kernel_rfl) (fun _ => by kernel_rfl) (fun _ w' h' => run_part (q := q1) (off := 4 * 0) (n := a) (by kernel_rfl) (h'.get 1 rfl) (qd_get a b c d).1)) ?_
    refine AllGhost.cons (ghost_call (v := arr (mulP a a)) (by decide) (fun _ => by kernel_rfl) (fun _ => by kernel_rfl) enter78 #[arr a] (fun _ => by kernel_rfl) (fun w' h' => squared_any a ha w' (VV.below h'.old VV.big))) ?_
    refine AllGhost.cons (ghost_plain (v := .pointer (some ⟨q1, 4, none⟩)) (by decide) (fun _ => by kernel_rfl) (fun _ => by kernel_rfl) (fun _ _ => (by kernel_rfl))) ?_
    refine AllGhost.cons (ghost_held (v := arr b) (by decide) (fun _ => by kernel_rfl) (fun _ => by kernel_rfl) (fun _ w' h' => run_part (q := q1) (off := 4 * 1) (n := b) (by kernel_rfl) (h'.get 1 rfl) (qd_get a b c d).2.1)) ?_
    refine AllGhost.cons (ghost_call (v := arr (mulP b b)) (by decide) (fun _ => by kernel_rfl) (fun _ => by kernel_rfl) enter78 #[arr b] (fun _ => by kernel_rfl) (fun w' h' => squared_any b hb w' (VV.below h'.old VV.big))) ?_
    refine AllGhost.cons (ghost_plain (v := .pointer (some ⟨q1, 8, none⟩)) (by decide) (fun _ => by kernel_rfl) (fun _ => by kernel_rfl) (fun _ _ => (by kernel_rfl))) ?_
    refine AllGhost.cons (ghost_held (v := arr c) (by decide) (fun _ => by kernel_rfl) (fun _ => by kernel_rfl) (fun _ w' h' => run_part (q := q1) (off := 4 * 2) (n := c) (by kernel_rfl) (h'.get 1 rfl) (qd_get a b c d).2.2.1)) ?_
    refine AllGhost.cons (ghost_call (v := arr (mulP c c)) (by decide) (fun _ => by kernel_rfl) (fun _ => by kernel_rfl) enter78 #[arr c] (fun _ => by kernel_rfl) (fun w' h' => squared_any c hc w' (VV.below h'.old VV.big))) ?_
    refine AllGhost.cons (ghost_make 0 (by decide) rfl (fun _ => by kernel_rfl) (fun _ _ => by kernel_rfl) (fun _ _ => run_alloc25)) ?_
    refine AllGhost.cons (ghost_make 1 (by decide) rfl (fun _ => by kernel_rfl) (fun _ _ => by kernel_rfl) (fun _ _ => run_alloc25)) ?_
    refine AllGhost.cons (ghost_make 2 (by decide) rfl (fun _ => by kernel_rfl) (fun _ _ => by kernel_rfl) (fun _ _ => run_alloc25)) ?_
    refine AllGhost.cons (ghost_fill 0 (by decide) rfl (fun _ => by kernel_rfl) (fun _ => by kernel_rfl) (fun _ => by kernel_rfl) (fun _ => by kernel_rfl) (info_el _) (one_el _) (by kernel_rfl)) ?_
    refine AllGhost.cons (ghost_fill 1 (by decide) rfl (fun _ => by kernel_rfl) (fun _ => by kernel_rfl) (fun _ => by kernel_rfl) (fun _ => by kernel_rfl) (info_el _) (one_el _) (by kernel_rfl)) ?_
    refine AllGhost.cons (ghost_fill 2 (by decide) rfl (fun _ => by kernel_rfl) (fun _ => by kernel_rfl) (fun _ => by kernel_rfl) (fun _ => by kernel_rfl) (info_el _) (one_el _) (by kernel_rfl)) ?_
    exact AllGhost.nil
  intro g w8 g9
  have h10 : HA w [(g 11, 25, el (mulP c c)), (g 10, 25, el (mulP b b)), (g 9, 25, el (mulP a a)), (q4, 82, qd 0 0 0 0), (q1, 82, qd a b c d)] w8 := g9.three
  clear g9 eB7
  generalize g 9 = q11 at h10 ⊢
  generalize g 10 = q12 at h10 ⊢
  generalize g 11 = q13 at h10 ⊢
  clear g
  refine then_at (F := ⟨(.agg (qd a b c d) :: pt q1 :: pt q4 :: pt q11 :: pt q12 :: pt q13 :: un :: un :: pt q1 :: arr a :: arr (mulP a a) :: .pointer (some ⟨q1, 4, none⟩) :: arr b :: arr (mulP b b) :: .pointer (some ⟨q1, 8, none⟩) :: arr c :: arr (mulP c c) :: List.replicate 23 un).toArray, []⟩) (by kernel_rfl) ?_
  refine wp_seq ?_
  -- region 2
  refine wl_region ?_
  refine wl_load h10 2 rfl (by kernel_rfl) (by kernel_rfl) Tryd.underlying25 rfl (info_el _) ?_
  refine wl_load h10 1 rfl (by kernel_rfl) (by kernel_rfl) Tryd.underlying25 rfl (info_el _) ?_
  refine wl_call (v := arr (addP (mulP a a) (mulP b b))) h10 (by kernel_rfl) enter87 #[arr (mulP a a), arr (mulP b b)] (by kernel_rfl) (Add_any (mulP a a) (mulP b b) (mulP_lt _ _) (mulP_lt _ _) w8 (VV.below h10.old VV.big)) ?_
  intro w14 h15
  refine wl_make h15 25 (by kernel_rfl) run_alloc25 ?_
  intro q16 w17 h18
  refine wl_fill (c' := el (addP (mulP a a) (mulP b b))) h18 0 rfl (by kernel_rfl) (by kernel_rfl) (by kernel_rfl) (el_sz _ _) (info_el _) (one_el _) ?_
  intro w19 (h20 : HA w [(q16, 25, el (addP (mulP a a) (mulP b b))), (q13, 25, el (mulP c c)), (q12, 25, el (mulP b b)), (q11, 25, el (mulP a a)), (q4, 82, qd 0 0 0 0), (q1, 82, qd a b c d)] w19)
  refine wl_nil ?_
  refine then_at (F := ⟨(.agg (qd a b c d) :: pt q1 :: pt q4 :: pt q11 :: pt q12 :: pt q13 :: pt q16 :: un :: pt q1 :: arr a :: arr (mulP a a) :: .pointer (some ⟨q1, 4, none⟩) :: arr b :: arr (mulP b b) :: .pointer (some ⟨q1, 8, none⟩) :: arr c :: arr (mulP c c) :: arr (mulP a a) :: arr (mulP b b) :: arr (addP (mulP a a) (mulP b b)) :: List.replicate 20 un).toArray, []⟩) (by kernel_rfl) ?_
  refine wp_seq ?_
  -- region 3
  refine wl_region ?_
  refine wl_load h20 2 rfl (by kernel_rfl) (by kernel_rfl) Tryd.underlying25 rfl (info_el _) ?_
  refine wl_load h20 3 rfl (by kernel_rfl) (by kernel_rfl) Tryd.underlying25 rfl (info_el _) ?_
  refine wl_call (v := arr (subP (mulP b b) (mulP a a))) h20 (by kernel_rfl) enter79 #[arr (mulP b b), arr (mulP a a)] (by kernel_rfl) (Sub_any (mulP b b) (mulP a a) (mulP_lt _ _) (mulP_lt _ _) w19 (VV.below h20.old VV.big)) ?_
  intro w21 h22
  refine wl_make h22 25 (by kernel_rfl) run_alloc25 ?_
  intro q23 w24 h25
  refine wl_fill (c' := el (subP (mulP b b) (mulP a a))) h25 0 rfl (by kernel_rfl) (by kernel_rfl) (by kernel_rfl) (el_sz _ _) (info_el _) (one_el _) ?_
  intro w26 (h27 : HA w [(q23, 25, el (subP (mulP b b) (mulP a a))), (q16, 25, el (addP (mulP a a) (mulP b b))), (q13, 25, el (mulP c c)), (q12, 25, el (mulP b b)), (q11, 25, el (mulP a a)), (q4, 82, qd 0 0 0 0), (q1, 82, qd a b c d)] w26)
  refine wl_nil ?_
  refine then_at (F := ⟨(.agg (qd a b c d) :: pt q1 :: pt q4 :: pt q11 :: pt q12 :: pt q13 :: pt q16 :: pt q23 :: pt q1 :: arr a :: arr (mulP a a) :: .pointer (some ⟨q1, 4, none⟩) :: arr b :: arr (mulP b b) :: .pointer (some ⟨q1, 8, none⟩) :: arr c :: arr (mulP c c) :: arr (mulP a a) :: arr (mulP b b) :: arr (addP (mulP a a) (mulP b b)) :: arr (mulP b b) :: arr (mulP a a) :: arr (subP (mulP b b) (mulP a a)) :: List.replicate 17 un).toArray, []⟩) (by kernel_rfl) ?_
  refine wp_seq ?_
  -- region 4
  obtain ⟨C28, hC28⟩ : ∃ C, C = qd (mulP (subP (mulP (addP a b) (addP a b)) (addP (mulP a a) (mulP b b))) (subP (subP (mulP b b) (mulP a a)) (addP (mulP c c) (mulP c c)))) (mulP (subP (mulP b b) (mulP a a)) (negP (addP (mulP a a) (mulP b b)))) (mulP (subP (subP (mulP b b) (mulP a a)) (addP (mulP c c) (mulP c c))) (subP (mulP b b) (mulP a a))) (mulP (subP (mulP (addP a b) (addP a b)) (addP (mulP a a) (mulP b b))) (negP (addP (mulP a a) (mulP b b)))) := ⟨_, rfl⟩
  refine wp_region_ghost (fun _ : Nat → Nat => (⟨(.agg (qd a b c d) :: pt q1 :: pt q4 :: pt q11 :: pt q12 :: pt q13 :: pt q16 :: pt q23 :: pt q1 :: arr a :: arr (mulP a a) :: .pointer (some ⟨q1, 4, none⟩) :: arr b :: arr (mulP b b) :: .pointer (some ⟨q1, 8, none⟩) :: arr c :: arr (mulP c c) :: arr (mulP a a) :: arr (mulP b b) :: arr (addP (mulP a a) (mulP b b)) :: arr (mulP b b) :: arr (mulP a a) :: arr (subP (mulP b b) (mulP a a)) :: pt q1 :: arr a :: .pointer (some ⟨q1, 4, none⟩) :: arr b :: arr (addP a b) :: arr (mulP (addP a b) (addP a b)) :: arr (addP (mulP a a) (mulP b b)) :: arr (subP (mulP (addP a b) (addP a b)) (addP (mulP a a) (mulP b b))) :: arr (subP (mulP b b) (mulP a a)) :: arr (mulP c c) :: arr (mulP c c) :: arr (addP (mulP c c) (mulP c c)) :: arr (subP (subP (mulP b b) (mulP a a)) (addP (mulP c c) (mulP c c))) :: arr (subP (mulP b b) (mulP a a)) :: arr (addP (mulP a a) (mulP b b)) :: arr (negP (addP (mulP a a) (mulP b b))) :: .agg C28 :: List.replicate 0 un).toArray, []⟩ : Act)) (GF w [(q23, 25, el (subP (mulP b b) (mulP a a))), (q16, 25, el (addP (mulP a a) (mulP b b))), (q13, 25, el (mulP c c)), (q12, 25, el (mulP b b)), (q11, 25, el (mulP a a)), (q4, 82, qd 0 0 0 0), (q1, 82, qd a b c d)] 17 16 5 q4 82 (C28)) [.pointer (some ⟨q1, 0, none⟩), arr a, .pointer (some ⟨q1, 4, none⟩), arr b, arr (addP a b), arr (mulP (addP a b) (addP a b)), arr (addP (mulP a a) (mulP b b)), arr (subP (mulP (addP a b) (addP a b)) (addP (mulP a a) (mulP b b))), arr (subP (mulP b b) (mulP a a)), arr (mulP c c), arr (mulP c c), arr (addP (mulP c c) (mulP c c)), arr (subP (subP (mulP b b) (mulP a a)) (addP (mulP c c) (mulP c c))), arr (subP (mulP b b) (mulP a a)), arr (addP (mulP a a) (mulP b b)), arr (negP (addP (mulP a a) (mulP b b))), .agg C28, undef] (by kernel_rfl) (by kernel_rfl) (by kernel_rfl) (by kernel_rfl) (fun _ _ _ _ h => h) (fun d hd => GF.start h27.drew (hd 17 (by decide))) ?_ ?_
  · refine AllGhost.cons (gf_plain (v := .pointer (some ⟨q1, 0, none⟩)) (by decide) (fun _ => by kernel_rfl) (fun _ => by kernel_rfl) (fun _ _ => (by kernel_rfl))) ?_
    refine AllGhost.cons (gf_read (v := arr a) 6 (by decide) rfl (by decide) (fun _ => by kernel_rfl) (fun _ => by kernel_rfl) (fun _ _ hb => run_part (q := q1) (off := 4 * 0) (n := a) (by kernel_rfl) hb (qd_get a b c d).1)) ?_
    refine AllGhost.cons (gf_plain (v := .pointer (some ⟨q1, 4, none⟩)) (by decide) (fun _ => by kernel_rfl) (fun _ => by kernel_rfl) (fun _ _ => (by kernel_rfl))) ?_
    refine AllGhost.cons (gf_read (v := arr b) 6 (by decide) rfl (by decide) (fun _ => by kernel_rfl) (fun _ => by kernel_rfl) (fun _ _ hb => run_part (q := q1) (off := 4 * 1) (n := b) (by kernel_rfl) hb (qd_get a b c d).2.1)) ?_
    refine AllGhost.cons (gf_callh (v := arr (addP a b)) (by decide) (fun _ => by kernel_rfl) (fun _ => by kernel_rfl) enter87 #[arr a, arr b] (fun _ => by kernel_rfl) (fun w' ho => Add_any a b ha hb w' (VV.below ho VV.big))) ?_
    refine AllGhost.cons (gf_callh (v := arr (mulP (addP a b) (addP a b))) (by decide) (fun _ => by kernel_rfl) (fun _ => by kernel_rfl) enter78 #[arr (addP a b)] (fun _ => by kernel_rfl) (fun w' ho => squared_any (addP a b) (addP_lt _ _) w' (VV.below ho VV.big))) ?_
    refine AllGhost.cons (gf_load2 1 (by decide) rfl (by decide) (fun _ => by kernel_rfl) (fun _ => by kernel_rfl) (fun _ => by kernel_rfl) Tryd.underlying25 rfl (info_el _)) ?_
    refine AllGhost.cons (gf_callh (v := arr (subP (mulP (addP a b) (addP a b)) (addP (mulP a a) (mulP b b)))) (by decide) (fun _ => by kernel_rfl) (fun _ => by kernel_rfl) enter79 #[arr (mulP (addP a b) (addP a b)), arr (addP (mulP a a) (mulP b b))] (fun _ => by kernel_rfl) (fun w' ho => Sub_any (mulP (addP a b) (addP a b)) (addP (mulP a a) (mulP b b)) (mulP_lt _ _) (addP_lt _ _) w' (VV.below ho VV.big))) ?_
    refine AllGhost.cons (gf_load2 0 (by decide) rfl (by decide) (fun _ => by kernel_rfl) (fun _ => by kernel_rfl) (fun _ => by kernel_rfl) Tryd.underlying25 rfl (info_el _)) ?_
    refine AllGhost.cons (gf_load2 2 (by decide) rfl (by decide) (fun _ => by kernel_rfl) (fun _ => by kernel_rfl) (fun _ => by kernel_rfl) Tryd.underlying25 rfl (info_el _)) ?_
    refine AllGhost.cons (gf_load2 2 (by decide) rfl (by decide) (fun _ => by kernel_rfl) (fun _ => by kernel_rfl) (fun _ => by kernel_rfl) Tryd.underlying25 rfl (info_el _)) ?_
    refine AllGhost.cons (gf_callh (v := arr (addP (mulP c c) (mulP c c))) (by decide) (fun _ => by kernel_rfl) (fun _ => by kernel_rfl) enter87 #[arr (mulP c c), arr (mulP c c)] (fun _ => by kernel_rfl) (fun w' ho => Add_any (mulP c c) (mulP c c) (mulP_lt _ _) (mulP_lt _ _) w' (VV.below ho VV.big))) ?_
    refine AllGhost.cons (gf_callh (v := arr (subP (subP (mulP b b) (mulP a a)) (addP (mulP c c) (mulP c c)))) (by decide) (fun _ => by kernel_rfl) (fun _ => by kernel_rfl) enter79 #[arr (subP (mulP b b) (mulP a a)), arr (addP (mulP c c) (mulP c c))] (fun _ => by kernel_rfl) (fun w' ho => Sub_any (subP (mulP b b) (mulP a a)) (addP (mulP c c) (mulP c c)) (subP_lt _ _) (addP_lt _ _) w' (VV.below ho VV.big))) ?_
    refine AllGhost.cons (gf_load2 0 (by decide) rfl (by decide) (fun _ => by kernel_rfl) (fun _ => by kernel_rfl) (fun _ => by kernel_rfl) Tryd.underlying25 rfl (info_el _)) ?_
    refine AllGhost.cons (gf_load2 1 (by decide) rfl (by decide) (fun _ => by kernel_rfl) (fun _ => by kernel_rfl) (fun _ => by kernel_rfl) Tryd.underlying25 rfl (info_el _)) ?_
    refine AllGhost.cons (gf_callh (v := arr (negP (addP (mulP a a) (mulP b b)))) (by decide) (fun _ => by kernel_rfl) (fun _ => by kernel_rfl) enter42 #[arr (addP (mulP a a) (mulP b b))] (fun _ => by kernel_rfl) (fun w' ho => Neg_any (addP (mulP a a) (mulP b b)) (addP_lt _ _) w' (VV.below ho VV.big))) ?_
    refine AllGhost.cons (gf_callh (v := .agg C28) (by decide) (fun _ => by kernel_rfl) (fun _ => by kernel_rfl) enter92 #[arr (subP (mulP (addP a b) (addP a b)) (addP (mulP a a) (mulP b b))), arr (subP (subP (mulP b b) (mulP a a)) (addP (mulP c c) (mulP c c))), arr (subP (mulP b b) (mulP a a)), arr (negP (addP (mulP a a) (mulP b b)))] (fun _ => by kernel_rfl) (fun w' ho => (by rw [hC28]; exact crossed_any (subP (mulP (addP a b) (addP a b)) (addP (mulP a a) (mulP b b))) (subP (subP (mulP b b) (mulP a a)) (addP (mulP c c) (mulP c c))) (subP (mulP b b) (mulP a a)) (negP (addP (mulP a a) (mulP b b))) (subP_lt _ _) (subP_lt _ _) (subP_lt _ _) (negP_lt _) w' (VV.below ho VV.big)))) ?_
    refine AllGhost.cons (gf_fill rfl (by rw [hC28]; exact (qd_sz (mulP (subP (mulP (addP a b) (addP a b)) (addP (mulP a a) (mulP b b))) (subP (subP (mulP b b) (mulP a a)) (addP (mulP c c) (mulP c c)))) (mulP (subP (mulP b b) (mulP a a)) (negP (addP (mulP a a) (mulP b b)))) (mulP (subP (subP (mulP b b) (mulP a a)) (addP (mulP c c) (mulP c c))) (subP (mulP b b) (mulP a a))) (mulP (subP (mulP (addP a b) (addP a b)) (addP (mulP a a) (mulP b b))) (negP (addP (mulP a a) (mulP b b)))) 0 0 0 0)) (fun _ => by kernel_rfl) (fun _ => by kernel_rfl) (fun _ => by kernel_rfl) (fun _ => by kernel_rfl) (by rw [hC28]; exact (info82q (mulP (subP (mulP (addP a b) (addP a b)) (addP (mulP a a) (mulP b b))) (subP (subP (mulP b b) (mulP a a)) (addP (mulP c c) (mulP c c)))) (mulP (subP (mulP b b) (mulP a a)) (negP (addP (mulP a a) (mulP b b)))) (mulP (subP (subP (mulP b b) (mulP a a)) (addP (mulP c c) (mulP c c))) (subP (mulP b b) (mulP a a))) (mulP (subP (mulP (addP a b) (addP a b)) (addP (mulP a a) (mulP b b))) (negP (addP (mulP a a) (mulP b b)))))) (by rw [hC28]; exact (one_qd (mulP (subP (mulP (addP a b) (addP a b)) (addP (mulP a a) (mulP b b))) (subP (subP (mulP b b) (mulP a a)) (addP (mulP c c) (mulP c c)))) (mulP (subP (mulP b b) (mulP a a)) (negP (addP (mulP a a) (mulP b b)))) (mulP (subP (subP (mulP b b) (mulP a a)) (addP (mulP c c) (mulP c c))) (subP (mulP b b) (mulP a a))) (mulP (subP (mulP (addP a b) (addP a b)) (addP (mulP a a) (mulP b b))) (negP (addP (mulP a a) (mulP b b)))))) (by decide) (by kernel_rfl)) ?_
    exact AllGhost.nil
  intro _ w29 g30
  have h31 : HA w [(q23, 25, el (subP (mulP b b) (mulP a a))), (q16, 25, el (addP (mulP a a) (mulP b b))), (q13, 25, el (mulP c c)), (q12, 25, el (mulP b b)), (q11, 25, el (mulP a a)), (q4, 82, C28), (q1, 82, qd a b c d)] w29 := g30.held
  clear g30
  subst hC28
  refine then_at (F := ⟨(.agg (qd a b c d) :: pt q1 :: pt q4 :: pt q11 :: pt q12 :: pt q13 :: pt q16 :: pt q23 :: pt q1 :: arr a :: arr (mulP a a) :: .pointer (some ⟨q1, 4, none⟩) :: arr b :: arr (mulP b b) :: .pointer (some ⟨q1, 8, none⟩) :: arr c :: arr (mulP c c) :: arr (mulP a a) :: arr (mulP b b) :: arr (addP (mulP a a) (mulP b b)) :: arr (mulP b b) :: arr (mulP a a) :: arr (subP (mulP b b) (mulP a a)) :: pt q1 :: arr a :: .pointer (some ⟨q1, 4, none⟩) :: arr b :: arr (addP a b) :: arr (mulP (addP a b) (addP a b)) :: arr (addP (mulP a a) (mulP b b)) :: arr (subP (mulP (addP a b) (addP a b)) (addP (mulP a a) (mulP b b))) :: arr (subP (mulP b b) (mulP a a)) :: arr (mulP c c) :: arr (mulP c c) :: arr (addP (mulP c c) (mulP c c)) :: arr (subP (subP (mulP b b) (mulP a a)) (addP (mulP c c) (mulP c c))) :: arr (subP (mulP b b) (mulP a a)) :: arr (addP (mulP a a) (mulP b b)) :: arr (negP (addP (mulP a a) (mulP b b))) :: .agg (qd (mulP (subP (mulP (addP a b) (addP a b)) (addP (mulP a a) (mulP b b))) (subP (subP (mulP b b) (mulP a a)) (addP (mulP c c) (mulP c c)))) (mulP (subP (mulP b b) (mulP a a)) (negP (addP (mulP a a) (mulP b b)))) (mulP (subP (subP (mulP b b) (mulP a a)) (addP (mulP c c) (mulP c c))) (subP (mulP b b) (mulP a a))) (mulP (subP (mulP (addP a b) (addP a b)) (addP (mulP a a) (mulP b b))) (negP (addP (mulP a a) (mulP b b))))) :: List.replicate 0 un).toArray, []⟩) (by kernel_rfl) ?_
  refine wp_ret ?_
  repeat first | refine then_ret ?_ | refine block_ret ?_
  exact bodyPost_ret (v := .agg (qd (mulP (subP (mulP (addP a b) (addP a b)) (addP (mulP a a) (mulP b b))) (subP (subP (mulP b b) (mulP a a)) (addP (mulP c c) (mulP c c)))) (mulP (subP (mulP b b) (mulP a a)) (negP (addP (mulP a a) (mulP b b)))) (mulP (subP (subP (mulP b b) (mulP a a)) (addP (mulP c c) (mulP c c))) (subP (mulP b b) (mulP a a))) (mulP (subP (mulP (addP a b) (addP a b)) (addP (mulP a a) (mulP b b))) (negP (addP (mulP a a) (mulP b b)))))) (res_cell (p := 2) (by kernel_rfl) (by kernel_rfl) (h31.get 5 rfl) Tryd.underlying82 rfl (info82q (mulP (subP (mulP (addP a b) (addP a b)) (addP (mulP a a) (mulP b b))) (subP (subP (mulP b b) (mulP a a)) (addP (mulP c c) (mulP c c)))) (mulP (subP (mulP b b) (mulP a a)) (negP (addP (mulP a a) (mulP b b)))) (mulP (subP (subP (mulP b b) (mulP a a)) (addP (mulP c c) (mulP c c))) (subP (mulP b b) (mulP a a))) (mulP (subP (mulP (addP a b) (addP a b)) (addP (mulP a a) (mulP b b))) (negP (addP (mulP a a) (mulP b b)))))) rfl ⟨rfl, h31.old⟩

set_option linter.unusedVariables false in
set_option maxRecDepth 100000 in
set_option maxHeartbeats 2000000 in
theorem wide_any (a b : Nat) (ha : a < P) (hb : b < P) (w : World) (VV : Vars w) :
    Calls Tryd.prog 56 #[.agg (pr a b)] w fun e w' => e = .returned (.agg (qd a (addP b 1) 1 (mulP a (addP b 1)))) ∧ Below w.heap.size w w' := by
  have H0 := HA.start w
  go_enter Tryd.func56, Tryd.ntmps56
  refine wp_seq ?_
  -- region 0
  refine wl_region ?_
  refine wl_make H0 27 (by kernel_rfl) (run_box27 (c := pr a b) (by kernel_rfl)) ?_
  intro q1 w2 h3
  refine wl_make h3 82 (by kernel_rfl) run_alloc82 ?_
  intro q4 w5 h6
  refine wl_nil ?_
  refine then_at (F := ⟨(.agg (pr a b) :: pt q1 :: pt q4 :: List.replicate 11 un).toArray, []⟩) (by kernel_rfl) ?_
  refine wp_seq ?_
  -- region 1
  obtain ⟨C7, hC7⟩ : ∃ C, C = qd a (addP b 1) 1 (mulP a (addP b 1)) := ⟨_, rfl⟩
  refine wp_region_ghost (fun _ : Nat → Nat => (⟨(.agg (pr a b) :: pt q1 :: pt q4 :: pt q1 :: arr a :: .agg (pr a b) :: arr (addP b 1) :: arr 1 :: pt q1 :: arr a :: .agg (pr a b) :: arr (addP b 1) :: arr (mulP a (addP b 1)) :: .agg C7 :: List.replicate 0 un).toArray, []⟩ : Act)) (GF w [(q4, 82, qd 0 0 0 0), (q1, 27, pr a b)] 11 10 0 q4 82 (C7)) [.pointer (some ⟨q1, 0, none⟩), arr a, .agg (pr a b), arr (addP b 1), arr 1, .pointer (some ⟨q1, 0, none⟩), arr a, .agg (pr a b), arr (addP b 1), arr (mulP a (addP b 1)), .agg C7, undef] (by kernel_rfl) (by kernel_rfl) (by kernel_rfl) (by kernel_rfl) (fun _ _ _ _ h => h) (fun d hd => GF.start h6.drew (hd 11 (by decide))) ?_ ?_
  · refine AllGhost.cons (gf_plain (v := .pointer (some ⟨q1, 0, none⟩)) (by decide) (fun _ => by kernel_rfl) (fun _ => by kernel_rfl) (fun _ _ => (by kernel_rfl))) ?_
    refine AllGhost.cons (gf_read (v := arr a) 1 (by decide) rfl (by decide) (fun _ => by kernel_rfl) (fun _ => by kernel_rfl) (fun _ _ hb => run_part (q := q1) (off := 4 * 0) (n := a) (by kernel_rfl) hb (fun i hi => pr_get0 a b i hi))) ?_
    refine AllGhost.cons (gf_load2 1 (by decide) rfl (by decide) (fun _ => by kernel_rfl) (fun _ => by kernel_rfl) (fun _ => by kernel_rfl) Tryd.underlying27 rfl (info27p a b)) ?_
    refine AllGhost.cons (gf_callh (v := arr (addP b 1)) (by decide) (fun _ => by kernel_rfl) (fun _ => by kernel_rfl) enter47 #[.agg (pr a b)] (fun _ => by kernel_rfl) (fun w' ho => y_any a b hb w' (VV.below ho VV.big))) ?_
    refine AllGhost.cons (gf_callh (v := arr 1) (by decide) (fun _ => by kernel_rfl) (fun _ => by kernel_rfl) enter41 #[iN .u32 1] (fun _ => by kernel_rfl) (fun w' ho => Small_any 1 (by decide) w')) ?_
    refine AllGhost.cons (gf_plain (v := .pointer (some ⟨q1, 0, none⟩)) (by decide) (fun _ => by kernel_rfl) (fun _ => by kernel_rfl) (fun _ _ => (by kernel_rfl))) ?_
    refine AllGhost.cons (gf_read (v := arr a) 1 (by decide) rfl (by decide) (fun _ => by kernel_rfl) (fun _ => by kernel_rfl) (fun _ _ hb => run_part (q := q1) (off := 4 * 0) (n := a) (by kernel_rfl) hb (fun i hi => pr_get0 a b i hi))) ?_
    refine AllGhost.cons (gf_load2 1 (by decide) rfl (by decide) (fun _ => by kernel_rfl) (fun _ => by kernel_rfl) (fun _ => by kernel_rfl) Tryd.underlying27 rfl (info27p a b)) ?_
    refine AllGhost.cons (gf_callh (v := arr (addP b 1)) (by decide) (fun _ => by kernel_rfl) (fun _ => by kernel_rfl) enter47 #[.agg (pr a b)] (fun _ => by kernel_rfl) (fun w' ho => y_any a b hb w' (VV.below ho VV.big))) ?_
    refine AllGhost.cons (gf_callh (v := arr (mulP a (addP b 1))) (by decide) (fun _ => by kernel_rfl) (fun _ => by kernel_rfl) enter80 #[arr a, arr (addP b 1)] (fun _ => by kernel_rfl) (fun w' ho => Mul_any a (addP b 1) ha (addP_lt _ _) w' (VV.below ho VV.big))) ?_
    refine AllGhost.cons (gf_plain (v := .agg C7) (by decide) (fun _ => by kernel_rfl) (fun _ => by kernel_rfl) (fun _ _ => (by rw [hC7]; exact (run_build82 (a := a) (b := addP b 1) (c := 1) (d := mulP a (addP b 1)) (by kernel_rfl) (by kernel_rfl) (by kernel_rfl) (by kernel_rfl))))) ?_
    refine AllGhost.cons (gf_fill rfl (by rw [hC7]; exact (qd_sz a (addP b 1) 1 (mulP a (addP b 1)) 0 0 0 0)) (fun _ => by kernel_rfl) (fun _ => by kernel_rfl) (fun _ => by kernel_rfl) (fun _ => by kernel_rfl) (by rw [hC7]; exact (info82q a (addP b 1) 1 (mulP a (addP b 1)))) (by rw [hC7]; exact (one_qd a (addP b 1) 1 (mulP a (addP b 1)))) (by decide) (by kernel_rfl)) ?_
    exact AllGhost.nil
  intro _ w8 g9
  have h10 : HA w [(q4, 82, C7), (q1, 27, pr a b)] w8 := g9.held
  clear g9
  subst hC7
  refine then_at (F := ⟨(.agg (pr a b) :: pt q1 :: pt q4 :: pt q1 :: arr a :: .agg (pr a b) :: arr (addP b 1) :: arr 1 :: pt q1 :: arr a :: .agg (pr a b) :: arr (addP b 1) :: arr (mulP a (addP b 1)) :: .agg (qd a (addP b 1) 1 (mulP a (addP b 1))) :: List.replicate 0 un).toArray, []⟩) (by kernel_rfl) ?_
  refine wp_ret ?_
  repeat first | refine then_ret ?_ | refine block_ret ?_
  exact bodyPost_ret (v := .agg (qd a (addP b 1) 1 (mulP a (addP b 1)))) (res_cell (p := 2) (by kernel_rfl) (by kernel_rfl) (h10.get 0 rfl) Tryd.underlying82 rfl (info82q a (addP b 1) 1 (mulP a (addP b 1)))) rfl ⟨rfl, h10.old⟩

set_option linter.unusedVariables false in
set_option maxRecDepth 100000 in
set_option maxHeartbeats 2000000 in
theorem point_any (a b c d : Nat) (ha : a < P) (hb : b < P) (hc : c < P) (hd : d < P) (w : World) (VV : Vars w) :
    Calls Tryd.prog 57 #[.agg (qd a b c d)] w fun e w' => e = .returned (.agg (pr (mulP a (invE c)) (subP (mulP b (invE c)) 1))) ∧ Below w.heap.size w w' := by
  have H0 := HA.start w
  go_enter Tryd.func57, Tryd.ntmps57
  refine wp_seq ?_
  -- region 0
  refine wl_region ?_
  refine wl_make H0 82 (by kernel_rfl) (run_box82 (c := qd a b c d) (by kernel_rfl)) ?_
  intro q1 w2 h3
  refine wl_make h3 27 (by kernel_rfl) run_alloc27 ?_
  intro q4 w5 h6
  refine wl_nil ?_
  refine then_at (F := ⟨(.agg (qd a b c d) :: pt q1 :: pt q4 :: List.replicate 13 un).toArray, []⟩) (by kernel_rfl) ?_
  refine wp_seq ?_
  -- region 1
  refine wl_region ?_
  refine wl_val (.pointer (some ⟨q1, 8, none⟩)) (by kernel_rfl) (by kernel_rfl) ?_
  refine wl_val (arr c) (by kernel_rfl) (run_part (q := q1) (off := 4 * 2) (n := c) (by kernel_rfl) (h6.get 1 rfl) (qd_get a b c d).2.2.1) ?_
  refine wl_call (v := arr (invE c)) h6 (by kernel_rfl) enter81 #[arr c] (by kernel_rfl) (Inv_any c hc w5 (VV.below h6.old VV.big)) ?_
  intro w7 h8
  refine wl_make h8 25 (by kernel_rfl) run_alloc25 ?_
  intro q9 w10 h11
  refine wl_fill (c' := el (invE c)) h11 0 rfl (by kernel_rfl) (by kernel_rfl) (by kernel_rfl) (el_sz _ _) (info_el _) (one_el _) ?_
  intro w12 (h13 : HA w [(q9, 25, el (invE c)), (q4, 27, pr 0 0), (q1, 82, qd a b c d)] w12)
  refine wl_nil ?_
  refine then_at (F := ⟨(.agg (qd a b c d) :: pt q1 :: pt q4 :: pt q9 :: .pointer (some ⟨q1, 8, none⟩) :: arr c :: arr (invE c) :: List.replicate 9 un).toArray, []⟩) (by kernel_rfl) ?_
  refine wp_seq ?_
  -- region 2
  refine wp_region_ghost (fun _ : Nat → Nat => (⟨(.agg (qd a b c d) :: pt q1 :: pt q4 :: pt q9 :: .pointer (some ⟨q1, 8, none⟩) :: arr c :: arr (invE c) :: pt q1 :: arr a :: arr (invE c) :: arr (mulP a (invE c)) :: .pointer (some ⟨q1, 4, none⟩) :: arr b :: arr (invE c) :: arr (mulP b (invE c)) :: .agg (pr (mulP a (invE c)) (subP (mulP b (invE c)) 1)) :: List.replicate 0 un).toArray, []⟩ : Act)) (GF w [(q9, 25, el (invE c)), (q4, 27, pr 0 0), (q1, 82, qd a b c d)] 9 8 1 q4 27 (pr (mulP a (invE c)) (subP (mulP b (invE c)) 1))) [.pointer (some ⟨q1, 0, none⟩), arr a, arr (invE c), arr (mulP a (invE c)), .pointer (some ⟨q1, 4, none⟩), arr b, arr (invE c), arr (mulP b (invE c)), .agg (pr (mulP a (invE c)) (subP (mulP b (invE c)) 1)), undef] (by kernel_rfl) (by kernel_rfl) (by kernel_rfl) (by kernel_rfl) (fun _ _ _ _ h => h) (fun d hd => GF.start h13.drew (hd 9 (by decide))) ?_ ?_
  · refine AllGhost.cons (gf_plain (v := .pointer (some ⟨q1, 0, none⟩)) (by decide) (fun _ => by kernel_rfl) (fun _ => by kernel_rfl) (fun _ _ => (by kernel_rfl))) ?_
    refine AllGhost.cons (gf_read (v := arr a) 2 (by decide) rfl (by decide) (fun _ => by kernel_rfl) (fun _ => by kernel_rfl) (fun _ _ hb => run_part (q := q1) (off := 4 * 0) (n := a) (by kernel_rfl) hb (qd_get a b c d).1)) ?_
    refine AllGhost.cons (gf_load2 0 (by decide) rfl (by decide) (fun _ => by kernel_rfl) (fun _ => by kernel_rfl) (fun _ => by kernel_rfl) Tryd.underlying25 rfl (info_el _)) ?_
    refine AllGhost.cons (gf_callh (v := arr (mulP a (invE c))) (by decide) (fun _ => by kernel_rfl) (fun _ => by kernel_rfl) enter80 #[arr a, arr (invE c)] (fun _ => by kernel_rfl) (fun w' ho => Mul_any a (invE c) ha (invE_lt _) w' (VV.below ho VV.big))) ?_
    refine AllGhost.cons (gf_plain (v := .pointer (some ⟨q1, 4, none⟩)) (by decide) (fun _ => by kernel_rfl) (fun _ => by kernel_rfl) (fun _ _ => (by kernel_rfl))) ?_
    refine AllGhost.cons (gf_read (v := arr b) 2 (by decide) rfl (by decide) (fun _ => by kernel_rfl) (fun _ => by kernel_rfl) (fun _ _ hb => run_part (q := q1) (off := 4 * 1) (n := b) (by kernel_rfl) hb (qd_get a b c d).2.1)) ?_
    refine AllGhost.cons (gf_load2 0 (by decide) rfl (by decide) (fun _ => by kernel_rfl) (fun _ => by kernel_rfl) (fun _ => by kernel_rfl) Tryd.underlying25 rfl (info_el _)) ?_
    refine AllGhost.cons (gf_callh (v := arr (mulP b (invE c))) (by decide) (fun _ => by kernel_rfl) (fun _ => by kernel_rfl) enter80 #[arr b, arr (invE c)] (fun _ => by kernel_rfl) (fun w' ho => Mul_any b (invE c) hb (invE_lt _) w' (VV.below ho VV.big))) ?_
    refine AllGhost.cons (gf_callh (v := .agg (pr (mulP a (invE c)) (subP (mulP b (invE c)) 1))) (by decide) (fun _ => by kernel_rfl) (fun _ => by kernel_rfl) enter43 #[arr (mulP a (invE c)), arr (mulP b (invE c))] (fun _ => by kernel_rfl) (fun w' ho => at_any (mulP a (invE c)) (mulP b (invE c)) (mulP_lt _ _) (mulP_lt _ _) w' (VV.below ho VV.big))) ?_
    refine AllGhost.cons (gf_fill rfl (pr_sz (mulP a (invE c)) (subP (mulP b (invE c)) 1) 0 0) (fun _ => by kernel_rfl) (fun _ => by kernel_rfl) (fun _ => by kernel_rfl) (fun _ => by kernel_rfl) (info27p (mulP a (invE c)) (subP (mulP b (invE c)) 1)) (one_pr (mulP a (invE c)) (subP (mulP b (invE c)) 1)) (by decide) (by kernel_rfl)) ?_
    exact AllGhost.nil
  intro _ w14 g15
  have h16 : HA w [(q9, 25, el (invE c)), (q4, 27, pr (mulP a (invE c)) (subP (mulP b (invE c)) 1)), (q1, 82, qd a b c d)] w14 := g15.held
  clear g15
  refine then_at (F := ⟨(.agg (qd a b c d) :: pt q1 :: pt q4 :: pt q9 :: .pointer (some ⟨q1, 8, none⟩) :: arr c :: arr (invE c) :: pt q1 :: arr a :: arr (invE c) :: arr (mulP a (invE c)) :: .pointer (some ⟨q1, 4, none⟩) :: arr b :: arr (invE c) :: arr (mulP b (invE c)) :: .agg (pr (mulP a (invE c)) (subP (mulP b (invE c)) 1)) :: List.replicate 0 un).toArray, []⟩) (by kernel_rfl) ?_
  refine wp_ret ?_
  repeat first | refine then_ret ?_ | refine block_ret ?_
  exact bodyPost_ret (v := .agg (pr (mulP a (invE c)) (subP (mulP b (invE c)) 1))) (res_cell (p := 2) (by kernel_rfl) (by kernel_rfl) (h16.get 1 rfl) Tryd.underlying27 rfl (info27p (mulP a (invE c)) (subP (mulP b (invE c)) 1))) rfl ⟨rfl, h16.old⟩

set_option linter.unusedVariables false in
set_option maxRecDepth 100000 in
set_option maxHeartbeats 2000000 in
theorem lsum_any (a b c d : Nat) (ha : a < P) (hb : b < P) (hc : c < P) (hd : d < P) (u qu : Nat) (hu : u < P) (w : World) (VV : Vars w) (hqu : Blk w qu 25 (el u)) :
    Calls Tryd.prog 94 #[.agg (pr a b), .agg (pr c d), .pointer (some ⟨qu, 0, none⟩)] w fun e w' => e = .returned (.agg (pr (mulP (addP (mulP (addP a b) (subP c d)) (mulP (subP a b) (addP c d))) (addP (mulP (addP a b) (subP c d)) (mulP (subP a b) (addP c d)))) (mulP (mulP (subP (mulP (addP a b) (subP c d)) (mulP (subP a b) (addP c d))) (subP (mulP (addP a b) (subP c d)) (mulP (subP a b) (addP c d)))) u))) ∧ Below w.heap.size w w' := by
  have H0 := HA.start w
  go_enter Tryd.func94, Tryd.ntmps94
  refine wp_seq ?_
  -- region 0
  refine wl_region ?_
  refine wl_make H0 113 (by kernel_rfl) (run_box113 (c := pr a b) (by kernel_rfl)) ?_
  intro q1 w2 h3
  refine wl_make h3 113 (by kernel_rfl) (run_box113 (c := pr c d) (by kernel_rfl)) ?_
  intro q4 w5 h6
  refine wl_make h6 113 (by kernel_rfl) run_alloc113 ?_
  intro q7 w8 h9
  refine wl_nil ?_
  refine then_at (F := ⟨(.agg (pr a b) :: .agg (pr c d) :: pt qu :: pt q1 :: pt q4 :: pt q7 :: List.replicate 35 un).toArray, []⟩) (by kernel_rfl) ?_
  refine wp_seq ?_
  -- region 1
  obtain ⟨B10, eB10⟩ : ∃ B, B = w8.heap.size := ⟨_, rfl⟩
  refine wp_region_ghost (fun g : Nat → Nat => (⟨(.agg (pr a b) :: .agg (pr c d) :: pt qu :: pt q1 :: pt q4 :: pt q7 :: pt (g 22) :: pt (g 23) :: pt q1 :: arr a :: .pointer (some ⟨q1, 4, none⟩) :: arr b :: arr (addP a b) :: pt q4 :: arr c :: .pointer (some ⟨q4, 4, none⟩) :: arr d :: arr (subP c d) :: arr (mulP (addP a b) (subP c d)) :: pt q1 :: arr a :: .pointer (some ⟨q1, 4, none⟩) :: arr b :: arr (subP a b) :: pt q4 :: arr c :: .pointer (some ⟨q4, 4, none⟩) :: arr d :: arr (addP c d) :: arr (mulP (subP a b) (addP c d)) :: List.replicate 11 un).toArray, []⟩ : Act)) (GS w [(q7, 113, pr 0 0), (q4, 113, pr c d), (q1, 113, pr a b)] B10 2 22 24 25 (el 0) (fun j => match j with | 0 => el (mulP (addP a b) (subP c d)) | _ => el (mulP (subP a b) (addP c d)))) [.pointer (some ⟨q1, 0, none⟩), arr a, .pointer (some ⟨q1, 4, none⟩), arr b, arr (addP a b), .pointer (some ⟨q4, 0, none⟩), arr c, .pointer (some ⟨q4, 4, none⟩), arr d, arr (subP c d), arr (mulP (addP a b) (subP c d)), .pointer (some ⟨q1, 0, none⟩), arr a, .pointer (some ⟨q1, 4, none⟩), arr b, arr (subP a b), .pointer (some ⟨q4, 0, none⟩), arr c, .pointer (some ⟨q4, 4, none⟩), arr d, arr (addP c d), arr (mulP (subP a b) (addP c d)), .pointer (some ⟨0, 0, none⟩), .pointer (some ⟨0, 0, none⟩), undef, undef] (by kernel_rfl) (by kernel_rfl) (by kernel_rfl) (by kernel_rfl) (fun _ _ _ _ h => h) (fun d hd => GS.start h9.drew eB10 (by decide) (fun j _ => by rcases j with _ | j <;> exact (el_sz _ _)) (fun j hj => hd j (Nat.lt_of_lt_of_le hj (by decide)))) ?_ ?_
  · refine AllGhost.cons (ghost_plain (v := .pointer (some ⟨q1, 0, none⟩)) (by decide) (fun _ => by kernel_rfl) (fun _ => by kernel_rfl) (fun _ _ => (by kernel_rfl))) ?_
    refine AllGhost.cons (ghost_held (v := arr a) (by decide) (fun _ => by kernel_rfl) (fun _ => by kernel_rfl) (fun _ w' h' => run_part (q := q1) (off := 4 * 0) (n := a) (by kernel_rfl) (h'.get 2 rfl) (fun i hi => pr_get0 a b i hi))) ?_
    refine AllGhost.cons (ghost_plain (v := .pointer (some ⟨q1, 4, none⟩)) (by decide) (fun _ => by kernel_rfl) (fun _ => by kernel_rfl) (fun _ _ => (by kernel_rfl))) ?_
    refine AllGhost.cons (ghost_held (v := arr b) (by decide) (fun _ => by kernel_rfl) (fun _ => by kernel_rfl) (fun _ w' h' => run_part (q := q1) (off := 4 * 1) (n := b) (by kernel_rfl) (h'.get 2 rfl) (fun i _ => pr_get1 a b i))) ?_
    refine AllGhost.cons (ghost_call (v := arr (addP a b)) (by decide) (fun _ => by kernel_rfl) (fun _ => by kernel_rfl) enter87 #[arr a, arr b] (fun _ => by kernel_rfl) (fun w' h' => Add_any a b ha hb w' (VV.below h'.old VV.big))) ?_
    refine AllGhost.cons (ghost_plain (v := .pointer (some ⟨q4, 0, none⟩)) (by decide) (fun _ => by kernel_rfl) (fun _ => by kernel_rfl) (fun _ _ => (by kernel_rfl))) ?_
    refine AllGhost.cons (ghost_held (v := arr c) (by decide) (fun _ => by kernel_rfl) (fun _ => by kernel_rfl) (fun _ w' h' => run_part (q := q4) (off := 4 * 0) (n := c) (by kernel_rfl) (h'.get 1 rfl) (fun i hi => pr_get0 c d i hi))) ?_
    refine AllGhost.cons (ghost_plain (v := .pointer (some ⟨q4, 4, none⟩)) (by decide) (fun _ => by kernel_rfl) (fun _ => by kernel_rfl) (fun _ _ => (by kernel_rfl))) ?_
    refine AllGhost.cons (ghost_held (v := arr d) (by decide) (fun _ => by kernel_rfl) (fun _ => by kernel_rfl) (fun _ w' h' => run_part (q := q4) (off := 4 * 1) (n := d) (by kernel_rfl) (h'.get 1 rfl) (fun i _ => pr_get1 c d i))) ?_
    refine AllGhost.cons (ghost_call (v := arr (subP c d)) (by decide) (fun _ => by kernel_rfl) (fun _ => by kernel_rfl) enter79 #[arr c, arr d] (fun _ => by kernel_rfl) (fun w' h' => Sub_any c d hc hd w' (VV.below h'.old VV.big))) ?_
    refine AllGhost.cons (ghost_call (v := arr (mulP (addP a b) (subP c d))) (by decide) (fun _ => by kernel_rfl) (fun _ => by kernel_rfl) enter80 #[arr (addP a b), arr (subP c d)] (fun _ => by kernel_rfl) (fun w' h' => Mul_any (addP a b) (subP c d) (addP_lt _ _) (subP_lt _ _) w' (VV.below h'.old VV.big))) ?_
    refine AllGhost.cons (ghost_plain (v := .pointer (some ⟨q1, 0, none⟩)) (by decide) (fun _ => by kernel_rfl) (fun _ => by kernel_rfl) (fun _ _ => (by kernel_rfl))) ?_
    refine AllGhost.cons (ghost_held (v := arr a) (by decide) (fun _ => by kernel_rfl) (fun _ => by kernel_rfl) (fun _ w' h' => run_part (q := q1) (off := 4 * 0) (n := a) (by kernel_rfl) (h'.get 2 rfl) (fun i hi => pr_get0 a b i hi))) ?_
    refine AllGhost.cons (ghost_plain (v := .pointer (some ⟨q1, 4, none⟩)) (by decide) (fun _ => by kernel_rfl) (fun _ => by kernel_rfl) (fun _ _ => (by kernel_rfl))) ?_
    refine AllGhost.cons (ghost_held (v := arr b) (by decide) (fun _ => by kernel_rfl) (fun _ => by kernel_rfl) (fun _ w' h' => run_part (q := q1) (off := 4 * 1) (n := b) (by kernel_rfl) (h'.get 2 rfl) (fun i _ => pr_get1 a b i))) ?_
    refine AllGhost.cons (ghost_call (v := arr (subP a b)) (by decide) (fun _ => by kernel_rfl) (fun _ => by kernel_rfl) enter79 #[arr a, arr b] (fun _ => by kernel_rfl) (fun w' h' => Sub_any a b ha hb w' (VV.below h'.old VV.big))) ?_
    refine AllGhost.cons (ghost_plain (v := .pointer (some ⟨q4, 0, none⟩)) (by decide) (fun _ => by kernel_rfl) (fun _ => by kernel_rfl) (fun _ _ => (by kernel_rfl))) ?_
    refine AllGhost.cons (ghost_held (v := arr c) (by decide) (fun _ => by kernel_rfl) (fun _ => by kernel_rfl) (fun _ w' h' => run_part (q := q4) (off := 4 * 0) (n := c) (by kernel_rfl) (h'.get 1 rfl) (fun i hi => pr_get0 c d i hi))) ?_
    refine AllGhost.cons (ghost_plain (v := .pointer (some ⟨q4, 4, none⟩)) (by decide) (fun _ => by kernel_rfl) (fun _ => by kernel_rfl) (fun _ _ => (by kernel_rfl))) ?_
    refine AllGhost.cons (ghost_held (v := arr d) (by decide) (fun _ => by kernel_rfl) (fun _ => by kernel_rfl) (fun _ w' h' => run_part (q := q4) (off := 4 * 1) (n := d) (by kernel_rfl) (h'.get 1 rfl) (fun i _ => pr_get1 c d i))) ?_
    refine AllGhost.cons (ghost_call (v := arr (addP c d)) (by decide) (fun _ => by kernel_rfl) (fun _ => by kernel_rfl) enter87 #[arr c, arr d] (fun _ => by kernel_rfl) (fun w' h' => Add_any c d hc hd w' (VV.below h'.old VV.big))) ?_
    refine AllGhost.cons (ghost_call (v := arr (mulP (subP a b) (addP c d))) (by decide) (fun _ => by kernel_rfl) (fun _ => by kernel_rfl) enter80 #[arr (subP a b), arr (addP c d)] (fun _ => by kernel_rfl) (fun w' h' => Mul_any (subP a b) (addP c d) (subP_lt _ _) (addP_lt _ _) w' (VV.below h'.old VV.big))) ?_
    refine AllGhost.cons (ghost_make 0 (by decide) rfl (fun _ => by kernel_rfl) (fun _ _ => by kernel_rfl) (fun _ _ => run_alloc25)) ?_
    refine AllGhost.cons (ghost_make 1 (by decide) rfl (fun _ => by kernel_rfl) (fun _ _ => by kernel_rfl) (fun _ _ => run_alloc25)) ?_
    refine AllGhost.cons (ghost_fill 0 (by decide) rfl (fun _ => by kernel_rfl) (fun _ => by kernel_rfl) (fun _ => by kernel_rfl) (fun _ => by kernel_rfl) (info_el _) (one_el _) (by kernel_rfl)) ?_
    refine AllGhost.cons (ghost_fill 1 (by decide) rfl (fun _ => by kernel_rfl) (fun _ => by kernel_rfl) (fun _ => by kernel_rfl) (fun _ => by kernel_rfl) (info_el _) (one_el _) (by kernel_rfl)) ?_
    exact AllGhost.nil
  intro g w11 g12
  have h13 : HA w [(g 23, 25, el (mulP (subP a b) (addP c d))), (g 22, 25, el (mulP (addP a b) (subP c d))), (q7, 113, pr 0 0), (q4, 113, pr c d), (q1, 113, pr a b)] w11 := g12.two
  clear g12 eB10
  generalize g 22 = q14 at h13 ⊢
  generalize g 23 = q15 at h13 ⊢
  clear g
  refine then_at (F := ⟨(.agg (pr a b) :: .agg (pr c d) :: pt qu :: pt q1 :: pt q4 :: pt q7 :: pt q14 :: pt q15 :: pt q1 :: arr a :: .pointer (some ⟨q1, 4, none⟩) :: arr b :: arr (addP a b) :: pt q4 :: arr c :: .pointer (some ⟨q4, 4, none⟩) :: arr d :: arr (subP c d) :: arr (mulP (addP a b) (subP c d)) :: pt q1 :: arr a :: .pointer (some ⟨q1, 4, none⟩) :: arr b :: arr (subP a b) :: pt q4 :: arr c :: .pointer (some ⟨q4, 4, none⟩) :: arr d :: arr (addP c d) :: arr (mulP (subP a b) (addP c d)) :: List.replicate 11 un).toArray, []⟩) (by kernel_rfl) ?_
  refine wp_seq ?_
  -- region 2
  refine wp_region_ghost (fun _ : Nat → Nat => (⟨(.agg (pr a b) :: .agg (pr c d) :: pt qu :: pt q1 :: pt q4 :: pt q7 :: pt q14 :: pt q15 :: pt q1 :: arr a :: .pointer (some ⟨q1, 4, none⟩) :: arr b :: arr (addP a b) :: pt q4 :: arr c :: .pointer (some ⟨q4, 4, none⟩) :: arr d :: arr (subP c d) :: arr (mulP (addP a b) (subP c d)) :: pt q1 :: arr a :: .pointer (some ⟨q1, 4, none⟩) :: arr b :: arr (subP a b) :: pt q4 :: arr c :: .pointer (some ⟨q4, 4, none⟩) :: arr d :: arr (addP c d) :: arr (mulP (subP a b) (addP c d)) :: arr (mulP (addP a b) (subP c d)) :: arr (mulP (subP a b) (addP c d)) :: arr (addP (mulP (addP a b) (subP c d)) (mulP (subP a b) (addP c d))) :: arr (mulP (addP (mulP (addP a b) (subP c d)) (mulP (subP a b) (addP c d))) (addP (mulP (addP a b) (subP c d)) (mulP (subP a b) (addP c d)))) :: arr (mulP (addP a b) (subP c d)) :: arr (mulP (subP a b) (addP c d)) :: arr (subP (mulP (addP a b) (subP c d)) (mulP (subP a b) (addP c d))) :: arr (mulP (subP (mulP (addP a b) (subP c d)) (mulP (subP a b) (addP c d))) (subP (mulP (addP a b) (subP c d)) (mulP (subP a b) (addP c d)))) :: arr u :: arr (mulP (mulP (subP (mulP (addP a b) (subP c d)) (mulP (subP a b) (addP c d))) (subP (mulP (addP a b) (subP c d)) (mulP (subP a b) (addP c d)))) u) :: .agg (pr (mulP (addP (mulP (addP a b) (subP c d)) (mulP (subP a b) (addP c d))) (addP (mulP (addP a b) (subP c d)) (mulP (subP a b) (addP c d)))) (mulP (mulP (subP (mulP (addP a b) (subP c d)) (mulP (subP a b) (addP c d))) (subP (mulP (addP a b) (subP c d)) (mulP (subP a b) (addP c d)))) u)) :: List.replicate 0 un).toArray, []⟩ : Act)) (GF w [(q15, 25, el (mulP (subP a b) (addP c d))), (q14, 25, el (mulP (addP a b) (subP c d))), (q7, 113, pr 0 0), (q4, 113, pr c d), (q1, 113, pr a b)] 11 10 2 q7 113 (pr (mulP (addP (mulP (addP a b) (subP c d)) (mulP (subP a b) (addP c d))) (addP (mulP (addP a b) (subP c d)) (mulP (subP a b) (addP c d)))) (mulP (mulP (subP (mulP (addP a b) (subP c d)) (mulP (subP a b) (addP c d))) (subP (mulP (addP a b) (subP c d)) (mulP (subP a b) (addP c d)))) u))) [arr (mulP (addP a b) (subP c d)), arr (mulP (subP a b) (addP c d)), arr (addP (mulP (addP a b) (subP c d)) (mulP (subP a b) (addP c d))), arr (mulP (addP (mulP (addP a b) (subP c d)) (mulP (subP a b) (addP c d))) (addP (mulP (addP a b) (subP c d)) (mulP (subP a b) (addP c d)))), arr (mulP (addP a b) (subP c d)), arr (mulP (subP a b) (addP c d)), arr (subP (mulP (addP a b) (subP c d)) (mulP (subP a b) (addP c d))), arr (mulP (subP (mulP (addP a b) (subP c d)) (mulP (subP a b) (addP c d))) (subP (mulP (addP a b) (subP c d)) (mulP (subP a b) (addP c d)))), arr u, arr (mulP (mulP (subP (mulP (addP a b) (subP c d)) (mulP (subP a b) (addP c d))) (subP (mulP (addP a b) (subP c d)) (mulP (subP a b) (addP c d)))) u), .agg (pr (mulP (addP (mulP (addP a b) (subP c d)) (mulP (subP a b) (addP c d))) (addP (mulP (addP a b) (subP c d)) (mulP (subP a b) (addP c d)))) (mulP (mulP (subP (mulP (addP a b) (subP c d)) (mulP (subP a b) (addP c d))) (subP (mulP (addP a b) (subP c d)) (mulP (subP a b) (addP c d)))) u)), undef] (by kernel_rfl) (by kernel_rfl) (by kernel_rfl) (by kernel_rfl) (fun _ _ _ _ h => h) (fun d hd => GF.start h13.drew (hd 11 (by decide))) ?_ ?_
  · refine AllGhost.cons (gf_load2 1 (by decide) rfl (by decide) (fun _ => by kernel_rfl) (fun _ => by kernel_rfl) (fun _ => by kernel_rfl) Tryd.underlying25 rfl (info_el _)) ?_
    refine AllGhost.cons (gf_load2 0 (by decide) rfl (by decide) (fun _ => by kernel_rfl) (fun _ => by kernel_rfl) (fun _ => by kernel_rfl) Tryd.underlying25 rfl (info_el _)) ?_
    refine AllGhost.cons (gf_callh (v := arr (addP (mulP (addP a b) (subP c d)) (mulP (subP a b) (addP c d)))) (by decide) (fun _ => by kernel_rfl) (fun _ => by kernel_rfl) enter87 #[arr (mulP (addP a b) (subP c d)), arr (mulP (subP a b) (addP c d))] (fun _ => by kernel_rfl) (fun w' ho => Add_any (mulP (addP a b) (subP c d)) (mulP (subP a b) (addP c d)) (mulP_lt _ _) (mulP_lt _ _) w' (VV.below ho VV.big))) ?_
    refine AllGhost.cons (gf_callh (v := arr (mulP (addP (mulP (addP a b) (subP c d)) (mulP (subP a b) (addP c d))) (addP (mulP (addP a b) (subP c d)) (mulP (subP a b) (addP c d))))) (by decide) (fun _ => by kernel_rfl) (fun _ => by kernel_rfl) enter78 #[arr (addP (mulP (addP a b) (subP c d)) (mulP (subP a b) (addP c d)))] (fun _ => by kernel_rfl) (fun w' ho => squared_any (addP (mulP (addP a b) (subP c d)) (mulP (subP a b) (addP c d))) (addP_lt _ _) w' (VV.below ho VV.big))) ?_
    refine AllGhost.cons (gf_load2 1 (by decide) rfl (by decide) (fun _ => by kernel_rfl) (fun _ => by kernel_rfl) (fun _ => by kernel_rfl) Tryd.underlying25 rfl (info_el _)) ?_
    refine AllGhost.cons (gf_load2 0 (by decide) rfl (by decide) (fun _ => by kernel_rfl) (fun _ => by kernel_rfl) (fun _ => by kernel_rfl) Tryd.underlying25 rfl (info_el _)) ?_
    refine AllGhost.cons (gf_callh (v := arr (subP (mulP (addP a b) (subP c d)) (mulP (subP a b) (addP c d)))) (by decide) (fun _ => by kernel_rfl) (fun _ => by kernel_rfl) enter79 #[arr (mulP (addP a b) (subP c d)), arr (mulP (subP a b) (addP c d))] (fun _ => by kernel_rfl) (fun w' ho => Sub_any (mulP (addP a b) (subP c d)) (mulP (subP a b) (addP c d)) (mulP_lt _ _) (mulP_lt _ _) w' (VV.below ho VV.big))) ?_
    refine AllGhost.cons (gf_callh (v := arr (mulP (subP (mulP (addP a b) (subP c d)) (mulP (subP a b) (addP c d))) (subP (mulP (addP a b) (subP c d)) (mulP (subP a b) (addP c d))))) (by decide) (fun _ => by kernel_rfl) (fun _ => by kernel_rfl) enter78 #[arr (subP (mulP (addP a b) (subP c d)) (mulP (subP a b) (addP c d)))] (fun _ => by kernel_rfl) (fun w' ho => squared_any (subP (mulP (addP a b) (subP c d)) (mulP (subP a b) (addP c d))) (subP_lt _ _) w' (VV.below ho VV.big))) ?_
    refine AllGhost.cons (gf_old (v := arr u) (by decide) (fun _ => by kernel_rfl) (fun _ => by kernel_rfl) (fun _ w' ho => run_part (q := qu) (off := 0) (n := u) (by kernel_rfl) (hqu.keep ho) (fun i _ => by rw [Nat.zero_add]))) ?_
    refine AllGhost.cons (gf_callh (v := arr (mulP (mulP (subP (mulP (addP a b) (subP c d)) (mulP (subP a b) (addP c d))) (subP (mulP (addP a b) (subP c d)) (mulP (subP a b) (addP c d)))) u)) (by decide) (fun _ => by kernel_rfl) (fun _ => by kernel_rfl) enter80 #[arr (mulP (subP (mulP (addP a b) (subP c d)) (mulP (subP a b) (addP c d))) (subP (mulP (addP a b) (subP c d)) (mulP (subP a b) (addP c d)))), arr u] (fun _ => by kernel_rfl) (fun w' ho => Mul_any (mulP (subP (mulP (addP a b) (subP c d)) (mulP (subP a b) (addP c d))) (subP (mulP (addP a b) (subP c d)) (mulP (subP a b) (addP c d)))) u (mulP_lt _ _) hu w' (VV.below ho VV.big))) ?_
    refine AllGhost.cons (gf_plain (v := .agg (pr (mulP (addP (mulP (addP a b) (subP c d)) (mulP (subP a b) (addP c d))) (addP (mulP (addP a b) (subP c d)) (mulP (subP a b) (addP c d)))) (mulP (mulP (subP (mulP (addP a b) (subP c d)) (mulP (subP a b) (addP c d))) (subP (mulP (addP a b) (subP c d)) (mulP (subP a b) (addP c d)))) u))) (by decide) (fun _ => by kernel_rfl) (fun _ => by kernel_rfl) (fun _ _ => (run_build113 (a := mulP (addP (mulP (addP a b) (subP c d)) (mulP (subP a b) (addP c d))) (addP (mulP (addP a b) (subP c d)) (mulP (subP a b) (addP c d)))) (b := mulP (mulP (subP (mulP (addP a b) (subP c d)) (mulP (subP a b) (addP c d))) (subP (mulP (addP a b) (subP c d)) (mulP (subP a b) (addP c d)))) u) (by kernel_rfl) (by kernel_rfl)))) ?_
    refine AllGhost.cons (gf_fill rfl (pr_sz (mulP (addP (mulP (addP a b) (subP c d)) (mulP (subP a b) (addP c d))) (addP (mulP (addP a b) (subP c d)) (mulP (subP a b) (addP c d)))) (mulP (mulP (subP (mulP (addP a b) (subP c d)) (mulP (subP a b) (addP c d))) (subP (mulP (addP a b) (subP c d)) (mulP (subP a b) (addP c d)))) u) 0 0) (fun _ => by kernel_rfl) (fun _ => by kernel_rfl) (fun _ => by kernel_rfl) (fun _ => by kernel_rfl) (info113p (mulP (addP (mulP (addP a b) (subP c d)) (mulP (subP a b) (addP c d))) (addP (mulP (addP a b) (subP c d)) (mulP (subP a b) (addP c d)))) (mulP (mulP (subP (mulP (addP a b) (subP c d)) (mulP (subP a b) (addP c d))) (subP (mulP (addP a b) (subP c d)) (mulP (subP a b) (addP c d)))) u)) (one_pr (mulP (addP (mulP (addP a b) (subP c d)) (mulP (subP a b) (addP c d))) (addP (mulP (addP a b) (subP c d)) (mulP (subP a b) (addP c d)))) (mulP (mulP (subP (mulP (addP a b) (subP c d)) (mulP (subP a b) (addP c d))) (subP (mulP (addP a b) (subP c d)) (mulP (subP a b) (addP c d)))) u)) (by decide) (by kernel_rfl)) ?_
    exact AllGhost.nil
  intro _ w16 g17
  have h18 : HA w [(q15, 25, el (mulP (subP a b) (addP c d))), (q14, 25, el (mulP (addP a b) (subP c d))), (q7, 113, pr (mulP (addP (mulP (addP a b) (subP c d)) (mulP (subP a b) (addP c d))) (addP (mulP (addP a b) (subP c d)) (mulP (subP a b) (addP c d)))) (mulP (mulP (subP (mulP (addP a b) (subP c d)) (mulP (subP a b) (addP c d))) (subP (mulP (addP a b) (subP c d)) (mulP (subP a b) (addP c d)))) u)), (q4, 113, pr c d), (q1, 113, pr a b)] w16 := g17.held
  clear g17
  refine then_at (F := ⟨(.agg (pr a b) :: .agg (pr c d) :: pt qu :: pt q1 :: pt q4 :: pt q7 :: pt q14 :: pt q15 :: pt q1 :: arr a :: .pointer (some ⟨q1, 4, none⟩) :: arr b :: arr (addP a b) :: pt q4 :: arr c :: .pointer (some ⟨q4, 4, none⟩) :: arr d :: arr (subP c d) :: arr (mulP (addP a b) (subP c d)) :: pt q1 :: arr a :: .pointer (some ⟨q1, 4, none⟩) :: arr b :: arr (subP a b) :: pt q4 :: arr c :: .pointer (some ⟨q4, 4, none⟩) :: arr d :: arr (addP c d) :: arr (mulP (subP a b) (addP c d)) :: arr (mulP (addP a b) (subP c d)) :: arr (mulP (subP a b) (addP c d)) :: arr (addP (mulP (addP a b) (subP c d)) (mulP (subP a b) (addP c d))) :: arr (mulP (addP (mulP (addP a b) (subP c d)) (mulP (subP a b) (addP c d))) (addP (mulP (addP a b) (subP c d)) (mulP (subP a b) (addP c d)))) :: arr (mulP (addP a b) (subP c d)) :: arr (mulP (subP a b) (addP c d)) :: arr (subP (mulP (addP a b) (subP c d)) (mulP (subP a b) (addP c d))) :: arr (mulP (subP (mulP (addP a b) (subP c d)) (mulP (subP a b) (addP c d))) (subP (mulP (addP a b) (subP c d)) (mulP (subP a b) (addP c d)))) :: arr u :: arr (mulP (mulP (subP (mulP (addP a b) (subP c d)) (mulP (subP a b) (addP c d))) (subP (mulP (addP a b) (subP c d)) (mulP (subP a b) (addP c d)))) u) :: .agg (pr (mulP (addP (mulP (addP a b) (subP c d)) (mulP (subP a b) (addP c d))) (addP (mulP (addP a b) (subP c d)) (mulP (subP a b) (addP c d)))) (mulP (mulP (subP (mulP (addP a b) (subP c d)) (mulP (subP a b) (addP c d))) (subP (mulP (addP a b) (subP c d)) (mulP (subP a b) (addP c d)))) u)) :: List.replicate 0 un).toArray, []⟩) (by kernel_rfl) ?_
  refine wp_ret ?_
  repeat first | refine then_ret ?_ | refine block_ret ?_
  exact bodyPost_ret (v := .agg (pr (mulP (addP (mulP (addP a b) (subP c d)) (mulP (subP a b) (addP c d))) (addP (mulP (addP a b) (subP c d)) (mulP (subP a b) (addP c d)))) (mulP (mulP (subP (mulP (addP a b) (subP c d)) (mulP (subP a b) (addP c d))) (subP (mulP (addP a b) (subP c d)) (mulP (subP a b) (addP c d)))) u))) (res_cell (p := 5) (by kernel_rfl) (by kernel_rfl) (h18.get 2 rfl) Tryd.underlying113 rfl (info113p (mulP (addP (mulP (addP a b) (subP c d)) (mulP (subP a b) (addP c d))) (addP (mulP (addP a b) (subP c d)) (mulP (subP a b) (addP c d)))) (mulP (mulP (subP (mulP (addP a b) (subP c d)) (mulP (subP a b) (addP c d))) (subP (mulP (addP a b) (subP c d)) (mulP (subP a b) (addP c d)))) u))) rfl ⟨rfl, h18.old⟩
end Go.Proofs.YtpaendmdcdeemaaDoor
