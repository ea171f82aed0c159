/-
 crossed, doubled, wide, point; the sum of the ladder.
-/
import Derived.Test.YtefjnfeckenmkaaGreatDoorC0
namespace Go.Proofs.YtefjnfeckenmkaaGreatDoor
set_option linter.unusedVariables false
set_option maxRecDepth 100000
set_option maxHeartbeats 2000000
open Go.RowKit Num
theorem crossed_any (a b c d : Nat) (ha : a < P) (hb : b < P) (hc : c < P) (hd : d < P) (w : World) (VV : Vars w) :
  Calls Tryz.prog 92 #[arr a, arr b, arr c, arr d] w fun e w' => e = .returned (.agg (qd (mulP a b) (mulP c d) (mulP b c) (mulP a d))) ∧ Below w.heap.size w w' := by
 have H0 := HA.start w
 go_enter Tryz.func92, Tryz.ntmps92
 refine zsr ?_
 refine wl_make H0 37 (run_box25 (c := el a)) ?_
 intro q1 w2 h3
 refine wl_make h3 37 (run_box25 (c := el b)) ?_
 intro q4 w5 h6
 refine wl_make h6 37 (run_box25 (c := el c)) ?_
 intro q7 w8 h9
 refine wl_make h9 37 (run_box25 (c := el d)) ?_
 intro q10 w11 h12
 refine wl_make h12 68 run_alloc82 ?_
 intro q13 w14 h15
 refine znt ?_
 refine wp_seq ?_
 obtain ⟨C16, hC16⟩ : ∃ C, C = qd (mulP a b) (mulP c d) (mulP b c) (mulP a d) := ⟨_, rfl⟩
 refine zrg (fun _ : Nat → Nat => (⟨(arr a :: arr b :: arr c :: arr d :: pt q1 :: pt q4 :: pt q7 :: pt q10 :: pt q13 :: arr a :: arr b :: arr (mulP a b) :: arr c :: arr d :: arr (mulP c d) :: arr b :: arr c :: arr (mulP b c) :: arr a :: arr d :: arr (mulP a d) :: .agg C16 :: List.replicate 0 un).toArray, []⟩ : Act)) (GF w [(q13, 68, qd 0 0 0 0), (q10, 37, el d), (q7, 37, el c), (q4, 37, el b), (q1, 37, el a)] 13 12 0 q13 68 (C16)) (fun d hd => GF.start h15.drew (hd 13 (by decide))) ?_ ?_
 ·refine zg (gf_load2 4 rfl Tryz.underlying37 rfl (info_el _)) ?_
  refine zg (gf_load2 3 rfl Tryz.underlying37 rfl (info_el _)) ?_
  refine zg (gf_callh (v := arr (mulP a b)) enter80 #[arr a, arr b] (fun w' ho => Mul_any a b ha hb w' (VV.below ho VV.big))) ?_
  refine zg (gf_load2 2 rfl Tryz.underlying37 rfl (info_el _)) ?_
  refine zg (gf_load2 1 rfl Tryz.underlying37 rfl (info_el _)) ?_
  refine zg (gf_callh (v := arr (mulP c d)) enter80 #[arr c, arr d] (fun w' ho => Mul_any c d hc hd w' (VV.below ho VV.big))) ?_
  refine zg (gf_load2 3 rfl Tryz.underlying37 rfl (info_el _)) ?_
  refine zg (gf_load2 2 rfl Tryz.underlying37 rfl (info_el _)) ?_
  refine zg (gf_callh (v := arr (mulP b c)) enter80 #[arr b, arr c] (fun w' ho => Mul_any b c hb hc w' (VV.below ho VV.big))) ?_
  refine zg (gf_load2 4 rfl Tryz.underlying37 rfl (info_el _)) ?_
  refine zg (gf_load2 1 rfl Tryz.underlying37 rfl (info_el _)) ?_
  refine zg (gf_callh (v := arr (mulP a d)) enter80 #[arr a, arr d] (fun w' ho => Mul_any a d ha hd w' (VV.below ho VV.big))) ?_
  refine zg (gf_plain (v := .agg C16) (hr := (fun _ _ => (by rw [hC16]; exact (run_build82 (a := mulP a b) (b := mulP c d) (c := mulP b c) (d := mulP a d) (by kernel_rfl) (by kernel_rfl) (by kernel_rfl) (by kernel_rfl)))))) ?_
  refine zg (gf_fill rfl (by rw [hC16]; exact (qd_sz (mulP a b) (mulP c d) (mulP b c) (mulP a d) 0 0 0 0)) (by rw [hC16]; exact (info82q (mulP a b) (mulP c d) (mulP b c) (mulP a d))) (by rw [hC16]; exact (one_qd (mulP a b) (mulP c d) (mulP b c) (mulP a d)))) ?_
  exact AllGhost.nil
 intro _ w17 g18
 have h19 : HA w [(q13, 68, C16), (q10, 37, el d), (q7, 37, el c), (q4, 37, el b), (q1, 37, el a)] w17 := g18.held
 clear g18
 subst hC16
 refine then_at rfl ?_
 refine wp_ret ?_
 repeat first | refine then_ret ?_ | refine block_ret ?_
 exact bodyPost_ret (res_cell (p := 8) (by kernel_rfl) (by kernel_rfl) (h19.get 0 rfl) Tryz.underlying68 rfl (info82q (mulP a b) (mulP c d) (mulP b c) (mulP a d))) rfl ⟨rfl, h19.old⟩
theorem wdouble_any (a b c d : Nat) (ha : a < P) (hb : b < P) (hc : c < P) (hd : d < P) (w : World) (VV : Vars w) :
  Calls Tryz.prog 49 #[.agg (qd a b c d)] w fun e w' => e = .returned (.agg (qd (mulP (subP (mulP (addP a b) (addP a b)) (addP (mulP a a) (mulP b b))) (subP (subP (mulP b b) (mulP a a)) (addP (mulP c c) (mulP c c)))) (mulP (subP (mulP b b) (mulP a a)) (negP (addP (mulP a a) (mulP b b)))) (mulP (subP (subP (mulP b b) (mulP a a)) (addP (mulP c c) (mulP c c))) (subP (mulP b b) (mulP a a))) (mulP (subP (mulP (addP a b) (addP a b)) (addP (mulP a a) (mulP b b))) (negP (addP (mulP a a) (mulP b b)))))) ∧ Below w.heap.size w w' := by
 have H0 := HA.start w
 go_enter Tryz.func49, Tryz.ntmps49
 refine zsr ?_
 refine wl_make H0 68 (run_box82 (c := qd a b c d) (by kernel_rfl)) ?_
 intro q1 w2 h3
 refine wl_make h3 68 run_alloc82 ?_
 intro q4 w5 h6
 refine znt ?_
 refine wp_seq ?_
 obtain ⟨B7, eB7⟩ : ∃ B, B = w5.heap.size := ⟨_, rfl⟩
 refine zrg (fun g : Nat → Nat => (⟨(.agg (qd a b c d) :: pt q1 :: pt q4 :: pt (g 9) :: pt (g 10) :: pt (g 11) :: un :: un :: pt q1 :: arr a :: arr (mulP a a) :: .pointer (some ⟨q1, 4, none⟩) :: arr b :: arr (mulP b b) :: .pointer (some ⟨q1, 8, none⟩) :: arr c :: arr (mulP c c) :: List.replicate 23 un).toArray, []⟩ : Act)) (GS w [(q4, 68, qd 0 0 0 0), (q1, 68, qd a b c d)] B7 3 9 12 37 (el 0) (fun j => match j with | 0 => el (mulP a a) | 1 => el (mulP b b) | _ => el (mulP c c))) (fun d hd => GS.start h6.drew eB7 (by decide) (fun j _ => by rcases j with _ | _ | j <;> exact (el_sz _ _)) (fun j hj => hd j (Nat.lt_of_lt_of_le hj (by decide)))) ?_ ?_
 ·refine zg (ghost_plain (v := .pointer (some ⟨q1, 0, none⟩))) ?_
  refine zg (ghost_held (v := arr a) (fun _ w' h' => run_part (q := q1) (off := 4 * 0) (n := a) (h'.get 1 rfl) (qd_get a b c d).1)) ?_
  refine zg (ghost_call (v := arr (mulP a a)) enter78 #[arr a] (fun w' h' => squared_any a ha w' (VV.below h'.old VV.big))) ?_
  refine zg (ghost_plain (v := .pointer (some ⟨q1, 4, none⟩))) ?_
  refine zg (ghost_held (v := arr b) (fun _ w' h' => run_part (q := q1) (off := 4 * 1) (n := b) (h'.get 1 rfl) (qd_get a b c d).2.1)) ?_
  refine zg (ghost_call (v := arr (mulP b b)) enter78 #[arr b] (fun w' h' => squared_any b hb w' (VV.below h'.old VV.big))) ?_
  refine zg (ghost_plain (v := .pointer (some ⟨q1, 8, none⟩))) ?_
  refine zg (ghost_held (v := arr c) (fun _ w' h' => run_part (q := q1) (off := 4 * 2) (n := c) (h'.get 1 rfl) (qd_get a b c d).2.2.1)) ?_
  refine zg (ghost_call (v := arr (mulP c c)) enter78 #[arr c] (fun w' h' => squared_any c hc w' (VV.below h'.old VV.big))) ?_
  refine zg (ghost_make 0 rfl (fun _ _ => run_alloc25)) ?_
  refine zg (ghost_make 1 rfl (fun _ _ => run_alloc25)) ?_
  refine zg (ghost_make 2 rfl (fun _ _ => run_alloc25)) ?_
  refine zg (ghost_fill 0 rfl (info_el _) (one_el _)) ?_
  refine zg (ghost_fill 1 rfl (info_el _) (one_el _)) ?_
  refine zg (ghost_fill 2 rfl (info_el _) (one_el _)) ?_
  exact AllGhost.nil
 intro g w8 g9
 have h10 : HA w [(g 11, 37, el (mulP c c)), (g 10, 37, el (mulP b b)), (g 9, 37, el (mulP a a)), (q4, 68, qd 0 0 0 0), (q1, 68, qd a b c d)] w8 := g9.three
 clear g9 eB7
 generalize g 9 = q11 at h10 ⊢
 generalize g 10 = q12 at h10 ⊢
 generalize g 11 = q13 at h10 ⊢
 clear g
 refine then_at rfl ?_
 refine zsr ?_
 refine wl_load h10 2 rfl Tryz.underlying37 rfl (info_el _) ?_
 refine wl_load h10 1 rfl Tryz.underlying37 rfl (info_el _) ?_
 refine zwc (v := arr (addP (mulP a a) (mulP b b))) (args := #[arr (mulP a a), arr (mulP b b)]) h10 enter87 (Add_any (mulP a a) (mulP b b) (mulP_lt _ _) (mulP_lt _ _) w8 (VV.below h10.old VV.big)) ?_
 intro w14 h15
 refine wl_make h15 37 run_alloc25 ?_
 intro q16 w17 h18
 refine wl_fill (c' := el (addP (mulP a a) (mulP b b))) h18 0 rfl (el_sz _ _) (info_el _) (one_el _) ?_
 intro w19 (h20 : HA w [(q16, 37, el (addP (mulP a a) (mulP b b))), (q13, 37, el (mulP c c)), (q12, 37, el (mulP b b)), (q11, 37, el (mulP a a)), (q4, 68, qd 0 0 0 0), (q1, 68, qd a b c d)] w19)
 refine znt ?_
 refine zsr ?_
 refine wl_load h20 2 rfl Tryz.underlying37 rfl (info_el _) ?_
 refine wl_load h20 3 rfl Tryz.underlying37 rfl (info_el _) ?_
 refine zwc (v := arr (subP (mulP b b) (mulP a a))) (args := #[arr (mulP b b), arr (mulP a a)]) h20 enter79 (Sub_any (mulP b b) (mulP a a) (mulP_lt _ _) (mulP_lt _ _) w19 (VV.below h20.old VV.big)) ?_
 intro w21 h22
 refine wl_make h22 37 run_alloc25 ?_
 intro q23 w24 h25
 refine wl_fill (c' := el (subP (mulP b b) (mulP a a))) h25 0 rfl (el_sz _ _) (info_el _) (one_el _) ?_
 intro w26 (h27 : HA w [(q23, 37, el (subP (mulP b b) (mulP a a))), (q16, 37, el (addP (mulP a a) (mulP b b))), (q13, 37, el (mulP c c)), (q12, 37, el (mulP b b)), (q11, 37, el (mulP a a)), (q4, 68, qd 0 0 0 0), (q1, 68, qd a b c d)] w26)
 refine znt ?_
 refine wp_seq ?_
 obtain ⟨C28, hC28⟩ : ∃ C, C = qd (mulP (subP (mulP (addP a b) (addP a b)) (addP (mulP a a) (mulP b b))) (subP (subP (mulP b b) (mulP a a)) (addP (mulP c c) (mulP c c)))) (mulP (subP (mulP b b) (mulP a a)) (negP (addP (mulP a a) (mulP b b)))) (mulP (subP (subP (mulP b b) (mulP a a)) (addP (mulP c c) (mulP c c))) (subP (mulP b b) (mulP a a))) (mulP (subP (mulP (addP a b) (addP a b)) (addP (mulP a a) (mulP b b))) (negP (addP (mulP a a) (mulP b b)))) := ⟨_, rfl⟩
 refine zrg (fun _ : Nat → Nat => (⟨(.agg (qd a b c d) :: pt q1 :: pt q4 :: pt q11 :: pt q12 :: pt q13 :: pt q16 :: pt q23 :: pt q1 :: arr a :: arr (mulP a a) :: .pointer (some ⟨q1, 4, none⟩) :: arr b :: arr (mulP b b) :: .pointer (some ⟨q1, 8, none⟩) :: arr c :: arr (mulP c c) :: arr (mulP a a) :: arr (mulP b b) :: arr (addP (mulP a a) (mulP b b)) :: arr (mulP b b) :: arr (mulP a a) :: arr (subP (mulP b b) (mulP a a)) :: pt q1 :: arr a :: .pointer (some ⟨q1, 4, none⟩) :: arr b :: arr (addP a b) :: arr (mulP (addP a b) (addP a b)) :: arr (addP (mulP a a) (mulP b b)) :: arr (subP (mulP (addP a b) (addP a b)) (addP (mulP a a) (mulP b b))) :: arr (subP (mulP b b) (mulP a a)) :: arr (mulP c c) :: arr (mulP c c) :: arr (addP (mulP c c) (mulP c c)) :: arr (subP (subP (mulP b b) (mulP a a)) (addP (mulP c c) (mulP c c))) :: arr (subP (mulP b b) (mulP a a)) :: arr (addP (mulP a a) (mulP b b)) :: arr (negP (addP (mulP a a) (mulP b b))) :: .agg C28 :: List.replicate 0 un).toArray, []⟩ : Act)) (GF w [(q23, 37, el (subP (mulP b b) (mulP a a))), (q16, 37, el (addP (mulP a a) (mulP b b))), (q13, 37, el (mulP c c)), (q12, 37, el (mulP b b)), (q11, 37, el (mulP a a)), (q4, 68, qd 0 0 0 0), (q1, 68, qd a b c d)] 17 16 5 q4 68 (C28)) (fun d hd => GF.start h27.drew (hd 17 (by decide))) ?_ ?_
 ·refine zg (gf_plain (v := .pointer (some ⟨q1, 0, none⟩))) ?_
  refine zg (gf_read (v := arr a) 6 rfl (fun _ _ hb => run_part (q := q1) (off := 4 * 0) (n := a) hb (qd_get a b c d).1)) ?_
  refine zg (gf_plain (v := .pointer (some ⟨q1, 4, none⟩))) ?_
  refine zg (gf_read (v := arr b) 6 rfl (fun _ _ hb => run_part (q := q1) (off := 4 * 1) (n := b) hb (qd_get a b c d).2.1)) ?_
  refine zg (gf_callh (v := arr (addP a b)) enter87 #[arr a, arr b] (fun w' ho => Add_any a b ha hb w' (VV.below ho VV.big))) ?_
  refine zg (gf_callh (v := arr (mulP (addP a b) (addP a b))) enter78 #[arr (addP a b)] (fun w' ho => squared_any (addP a b) (addP_lt _ _) w' (VV.below ho VV.big))) ?_
  refine zg (gf_load2 1 rfl Tryz.underlying37 rfl (info_el _)) ?_
  refine zg (gf_callh (v := arr (subP (mulP (addP a b) (addP a b)) (addP (mulP a a) (mulP b b)))) enter79 #[arr (mulP (addP a b) (addP a b)), arr (addP (mulP a a) (mulP b b))] (fun w' ho => Sub_any (mulP (addP a b) (addP a b)) (addP (mulP a a) (mulP b b)) (mulP_lt _ _) (addP_lt _ _) w' (VV.below ho VV.big))) ?_
  refine zg (gf_load2 0 rfl Tryz.underlying37 rfl (info_el _)) ?_
  refine zg (gf_load2 2 rfl Tryz.underlying37 rfl (info_el _)) ?_
  refine zg (gf_load2 2 rfl Tryz.underlying37 rfl (info_el _)) ?_
  refine zg (gf_callh (v := arr (addP (mulP c c) (mulP c c))) enter87 #[arr (mulP c c), arr (mulP c c)] (fun w' ho => Add_any (mulP c c) (mulP c c) (mulP_lt _ _) (mulP_lt _ _) w' (VV.below ho VV.big))) ?_
  refine zg (gf_callh (v := arr (subP (subP (mulP b b) (mulP a a)) (addP (mulP c c) (mulP c c)))) enter79 #[arr (subP (mulP b b) (mulP a a)), arr (addP (mulP c c) (mulP c c))] (fun w' ho => Sub_any (subP (mulP b b) (mulP a a)) (addP (mulP c c) (mulP c c)) (subP_lt _ _) (addP_lt _ _) w' (VV.below ho VV.big))) ?_
  refine zg (gf_load2 0 rfl Tryz.underlying37 rfl (info_el _)) ?_
  refine zg (gf_load2 1 rfl Tryz.underlying37 rfl (info_el _)) ?_
  refine zg (gf_callh (v := arr (negP (addP (mulP a a) (mulP b b)))) enter42 #[arr (addP (mulP a a) (mulP b b))] (fun w' ho => Neg_any (addP (mulP a a) (mulP b b)) (addP_lt _ _) w' (VV.below ho VV.big))) ?_
  refine zg (gf_callh (v := .agg C28) enter92 #[arr (subP (mulP (addP a b) (addP a b)) (addP (mulP a a) (mulP b b))), arr (subP (subP (mulP b b) (mulP a a)) (addP (mulP c c) (mulP c c))), arr (subP (mulP b b) (mulP a a)), arr (negP (addP (mulP a a) (mulP b b)))] (fun w' ho => (by rw [hC28]; exact crossed_any (subP (mulP (addP a b) (addP a b)) (addP (mulP a a) (mulP b b))) (subP (subP (mulP b b) (mulP a a)) (addP (mulP c c) (mulP c c))) (subP (mulP b b) (mulP a a)) (negP (addP (mulP a a) (mulP b b))) (subP_lt _ _) (subP_lt _ _) (subP_lt _ _) (negP_lt _) w' (VV.below ho VV.big)))) ?_
  refine zg (gf_fill rfl (by rw [hC28]; exact (qd_sz (mulP (subP (mulP (addP a b) (addP a b)) (addP (mulP a a) (mulP b b))) (subP (subP (mulP b b) (mulP a a)) (addP (mulP c c) (mulP c c)))) (mulP (subP (mulP b b) (mulP a a)) (negP (addP (mulP a a) (mulP b b)))) (mulP (subP (subP (mulP b b) (mulP a a)) (addP (mulP c c) (mulP c c))) (subP (mulP b b) (mulP a a))) (mulP (subP (mulP (addP a b) (addP a b)) (addP (mulP a a) (mulP b b))) (negP (addP (mulP a a) (mulP b b)))) 0 0 0 0)) (by rw [hC28]; exact (info82q (mulP (subP (mulP (addP a b) (addP a b)) (addP (mulP a a) (mulP b b))) (subP (subP (mulP b b) (mulP a a)) (addP (mulP c c) (mulP c c)))) (mulP (subP (mulP b b) (mulP a a)) (negP (addP (mulP a a) (mulP b b)))) (mulP (subP (subP (mulP b b) (mulP a a)) (addP (mulP c c) (mulP c c))) (subP (mulP b b) (mulP a a))) (mulP (subP (mulP (addP a b) (addP a b)) (addP (mulP a a) (mulP b b))) (negP (addP (mulP a a) (mulP b b)))))) (by rw [hC28]; exact (one_qd (mulP (subP (mulP (addP a b) (addP a b)) (addP (mulP a a) (mulP b b))) (subP (subP (mulP b b) (mulP a a)) (addP (mulP c c) (mulP c c)))) (mulP (subP (mulP b b) (mulP a a)) (negP (addP (mulP a a) (mulP b b)))) (mulP (subP (subP (mulP b b) (mulP a a)) (addP (mulP c c) (mulP c c))) (subP (mulP b b) (mulP a a))) (mulP (subP (mulP (addP a b) (addP a b)) (addP (mulP a a) (mulP b b))) (negP (addP (mulP a a) (mulP b b))))))) ?_
  exact AllGhost.nil
 intro _ w29 g30
 have h31 : HA w [(q23, 37, el (subP (mulP b b) (mulP a a))), (q16, 37, el (addP (mulP a a) (mulP b b))), (q13, 37, el (mulP c c)), (q12, 37, el (mulP b b)), (q11, 37, el (mulP a a)), (q4, 68, C28), (q1, 68, qd a b c d)] w29 := g30.held
 clear g30
 subst hC28
 refine then_at rfl ?_
 refine wp_ret ?_
 repeat first | refine then_ret ?_ | refine block_ret ?_
 exact bodyPost_ret (res_cell (p := 2) (by kernel_rfl) (by kernel_rfl) (h31.get 5 rfl) Tryz.underlying68 rfl (info82q (mulP (subP (mulP (addP a b) (addP a b)) (addP (mulP a a) (mulP b b))) (subP (subP (mulP b b) (mulP a a)) (addP (mulP c c) (mulP c c)))) (mulP (subP (mulP b b) (mulP a a)) (negP (addP (mulP a a) (mulP b b)))) (mulP (subP (subP (mulP b b) (mulP a a)) (addP (mulP c c) (mulP c c))) (subP (mulP b b) (mulP a a))) (mulP (subP (mulP (addP a b) (addP a b)) (addP (mulP a a) (mulP b b))) (negP (addP (mulP a a) (mulP b b)))))) rfl ⟨rfl, h31.old⟩
theorem wide_any (a b : Nat) (ha : a < P) (hb : b < P) (w : World) (VV : Vars w) :
  Calls Tryz.prog 48 #[.agg (pr a b)] w fun e w' => e = .returned (.agg (qd a (addP b 1) 1 (mulP a (addP b 1)))) ∧ Below w.heap.size w w' := by
 have H0 := HA.start w
 go_enter Tryz.func48, Tryz.ntmps48
 refine zsr ?_
 refine wl_make H0 39 (run_box27 (c := pr a b)) ?_
 intro q1 w2 h3
 refine wl_make h3 68 run_alloc82 ?_
 intro q4 w5 h6
 refine znt ?_
 refine wp_seq ?_
 obtain ⟨C7, hC7⟩ : ∃ C, C = qd a (addP b 1) 1 (mulP a (addP b 1)) := ⟨_, rfl⟩
 refine zrg (fun _ : Nat → Nat => (⟨(.agg (pr a b) :: pt q1 :: pt q4 :: pt q1 :: arr a :: .agg (pr a b) :: arr (addP b 1) :: arr 1 :: pt q1 :: arr a :: .agg (pr a b) :: arr (addP b 1) :: arr (mulP a (addP b 1)) :: .agg C7 :: List.replicate 0 un).toArray, []⟩ : Act)) (GF w [(q4, 68, qd 0 0 0 0), (q1, 39, pr a b)] 11 10 0 q4 68 (C7)) (fun d hd => GF.start h6.drew (hd 11 (by decide))) ?_ ?_
 ·refine zg (gf_plain (v := .pointer (some ⟨q1, 0, none⟩))) ?_
  refine zg (gf_read (v := arr a) 1 rfl (fun _ _ hb => run_part (q := q1) (off := 4 * 0) (n := a) hb (fun i hi => pr_get0 a b i hi))) ?_
  refine zg (gf_load2 1 rfl Tryz.underlying39 rfl (info27p a b)) ?_
  refine zg (gf_callh (v := arr (addP b 1)) enter47 #[.agg (pr a b)] (fun w' ho => y_any a b hb w' (VV.below ho VV.big))) ?_
  refine zg (gf_callh (v := arr 1) enter41 #[iN .u32 1] (fun w' ho => Small_any 1 (by decide) w')) ?_
  refine zg (gf_plain (v := .pointer (some ⟨q1, 0, none⟩))) ?_
  refine zg (gf_read (v := arr a) 1 rfl (fun _ _ hb => run_part (q := q1) (off := 4 * 0) (n := a) hb (fun i hi => pr_get0 a b i hi))) ?_
  refine zg (gf_load2 1 rfl Tryz.underlying39 rfl (info27p a b)) ?_
  refine zg (gf_callh (v := arr (addP b 1)) enter47 #[.agg (pr a b)] (fun w' ho => y_any a b hb w' (VV.below ho VV.big))) ?_
  refine zg (gf_callh (v := arr (mulP a (addP b 1))) enter80 #[arr a, arr (addP b 1)] (fun w' ho => Mul_any a (addP b 1) ha (addP_lt _ _) w' (VV.below ho VV.big))) ?_
  refine zg (gf_plain (v := .agg C7) (hr := (fun _ _ => (by rw [hC7]; exact (run_build82 (a := a) (b := addP b 1) (c := 1) (d := mulP a (addP b 1)) (by kernel_rfl) (by kernel_rfl) (by kernel_rfl) (by kernel_rfl)))))) ?_
  refine zg (gf_fill rfl (by rw [hC7]; exact (qd_sz a (addP b 1) 1 (mulP a (addP b 1)) 0 0 0 0)) (by rw [hC7]; exact (info82q a (addP b 1) 1 (mulP a (addP b 1)))) (by rw [hC7]; exact (one_qd a (addP b 1) 1 (mulP a (addP b 1))))) ?_
  exact AllGhost.nil
 intro _ w8 g9
 have h10 : HA w [(q4, 68, C7), (q1, 39, pr a b)] w8 := g9.held
 clear g9
 subst hC7
 refine then_at rfl ?_
 refine wp_ret ?_
 repeat first | refine then_ret ?_ | refine block_ret ?_
 exact bodyPost_ret (res_cell (p := 2) (by kernel_rfl) (by kernel_rfl) (h10.get 0 rfl) Tryz.underlying68 rfl (info82q a (addP b 1) 1 (mulP a (addP b 1)))) rfl ⟨rfl, h10.old⟩
theorem point_any (a b c d : Nat) (ha : a < P) (hb : b < P) (hc : c < P) (hd : d < P) (w : World) (VV : Vars w) :
  Calls Tryz.prog 51 #[.agg (qd a b c d)] w fun e w' => e = .returned (.agg (pr (mulP a (invE c)) (subP (mulP b (invE c)) 1))) ∧ Below w.heap.size w w' := by
 have H0 := HA.start w
 go_enter Tryz.func51, Tryz.ntmps51
 refine zsr ?_
 refine wl_make H0 68 (run_box82 (c := qd a b c d) (by kernel_rfl)) ?_
 intro q1 w2 h3
 refine wl_make h3 39 run_alloc27 ?_
 intro q4 w5 h6
 refine znt ?_
 refine zsr ?_
 refine zwv (.pointer (some ⟨q1, 8, none⟩)) ?_
 refine zwu (run_part (q := q1) (off := 4 * 2) (n := c) (h6.get 1 rfl) (qd_get a b c d).2.2.1) ?_
 refine zwc h6 enter81 (Inv_any c hc w5 (VV.below h6.old VV.big)) ?_
 intro w7 h8
 refine wl_make h8 37 run_alloc25 ?_
 intro q9 w10 h11
 refine wl_fill (c' := el (invE c)) h11 0 rfl (el_sz _ _) (info_el _) (one_el _) ?_
 intro w12 (h13 : HA w [(q9, 37, el (invE c)), (q4, 39, pr 0 0), (q1, 68, qd a b c d)] w12)
 refine znt ?_
 refine wp_seq ?_
 refine zrg (fun _ : Nat → Nat => (⟨(.agg (qd a b c d) :: pt q1 :: pt q4 :: pt q9 :: .pointer (some ⟨q1, 8, none⟩) :: arr c :: arr (invE c) :: pt q1 :: arr a :: arr (invE c) :: arr (mulP a (invE c)) :: .pointer (some ⟨q1, 4, none⟩) :: arr b :: arr (invE c) :: arr (mulP b (invE c)) :: .agg (pr (mulP a (invE c)) (subP (mulP b (invE c)) 1)) :: List.replicate 0 un).toArray, []⟩ : Act)) (GF w [(q9, 37, el (invE c)), (q4, 39, pr 0 0), (q1, 68, qd a b c d)] 9 8 1 q4 39 (pr (mulP a (invE c)) (subP (mulP b (invE c)) 1))) (fun d hd => GF.start h13.drew (hd 9 (by decide))) ?_ ?_
 ·refine zg (gf_plain (v := .pointer (some ⟨q1, 0, none⟩))) ?_
  refine zg (gf_read (v := arr a) 2 rfl (fun _ _ hb => run_part (q := q1) (off := 4 * 0) (n := a) hb (qd_get a b c d).1)) ?_
  refine zg (gf_load2 0 rfl Tryz.underlying37 rfl (info_el _)) ?_
  refine zg (gf_callh (v := arr (mulP a (invE c))) enter80 #[arr a, arr (invE c)] (fun w' ho => Mul_any a (invE c) ha (invE_lt _) w' (VV.below ho VV.big))) ?_
  refine zg (gf_plain (v := .pointer (some ⟨q1, 4, none⟩))) ?_
  refine zg (gf_read (v := arr b) 2 rfl (fun _ _ hb => run_part (q := q1) (off := 4 * 1) (n := b) hb (qd_get a b c d).2.1)) ?_
  refine zg (gf_load2 0 rfl Tryz.underlying37 rfl (info_el _)) ?_
  refine zg (gf_callh (v := arr (mulP b (invE c))) enter80 #[arr b, arr (invE c)] (fun w' ho => Mul_any b (invE c) hb (invE_lt _) w' (VV.below ho VV.big))) ?_
  refine zg (gf_callh (v := .agg (pr (mulP a (invE c)) (subP (mulP b (invE c)) 1))) enter43 #[arr (mulP a (invE c)), arr (mulP b (invE c))] (fun w' ho => at_any (mulP a (invE c)) (mulP b (invE c)) (mulP_lt _ _) (mulP_lt _ _) w' (VV.below ho VV.big))) ?_
  refine zg (gf_fill rfl (pr_sz (mulP a (invE c)) (subP (mulP b (invE c)) 1) 0 0) (info27p (mulP a (invE c)) (subP (mulP b (invE c)) 1)) (one_pr (mulP a (invE c)) (subP (mulP b (invE c)) 1))) ?_
  exact AllGhost.nil
 intro _ w14 g15
 have h16 : HA w [(q9, 37, el (invE c)), (q4, 39, pr (mulP a (invE c)) (subP (mulP b (invE c)) 1)), (q1, 68, qd a b c d)] w14 := g15.held
 clear g15
 refine then_at rfl ?_
 refine wp_ret ?_
 repeat first | refine then_ret ?_ | refine block_ret ?_
 exact bodyPost_ret (res_cell (p := 2) (by kernel_rfl) (by kernel_rfl) (h16.get 1 rfl) Tryz.underlying39 rfl (info27p (mulP a (invE c)) (subP (mulP b (invE c)) 1))) rfl ⟨rfl, h16.old⟩
end Go.Proofs.YtefjnfeckenmkaaGreatDoor
