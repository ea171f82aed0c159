/-
 what adds a point: the closure, and who makes it.
-/
import Derived.Test.YtefjnfeckenmkaaGreatDoorCuS
namespace Go.Proofs.YtefjnfeckenmkaaGreatDoor
set_option linter.unusedVariables false
set_option maxRecDepth 100000
set_option maxHeartbeats 2000000
open Go.RowKit Num
theorem asum_any (a b c d : Nat) (ha : a < P) (hb : b < P) (hc : c < P) (hd : d < P) (u qu : Nat) (hu : u < P) (v qv : Nat) (hv : v < P) (t qt : Nat) (ht : t < P) (z qz : Nat) (hz : z < P) (w : World) (VV : Vars w) (hqu : Blk w qu 37 (el u)) (hqv : Blk w qv 37 (el v)) (hqt : Blk w qt 37 (el t)) (hqz : Blk w qz 37 (el z)) :
  Calls Tryz.prog 91 #[.agg (qd a b c d), .pointer (some ⟨qu, 0, none⟩), .pointer (some ⟨qv, 0, none⟩), .pointer (some ⟨qt, 0, none⟩), .pointer (some ⟨qz, 0, none⟩)] w fun e w' => e = .returned (.agg (qd (mulP (subP (mulP (addP b a) u) (mulP (subP b a) v)) (subP (mulP c t) (mulP d z))) (mulP (addP (mulP c t) (mulP d z)) (addP (mulP (addP b a) u) (mulP (subP b a) v))) (mulP (subP (mulP c t) (mulP d z)) (addP (mulP c t) (mulP d z))) (mulP (subP (mulP (addP b a) u) (mulP (subP b a) v)) (addP (mulP (addP b a) u) (mulP (subP b a) v))))) ∧ Below w.heap.size w w' := by
 have H0 := HA.start w
 go_enter Tryz.func91, Tryz.ntmps91
 refine zsr ?_
 refine wl_make H0 68 (run_box82 (c := qd a b c d) (by kernel_rfl)) ?_
 intro q1 w2 h3
 refine wl_make h3 68 run_alloc82 ?_
 intro q4 w5 h6
 refine znt ?_
 refine wp_seq ?_
 obtain ⟨B7, eB7⟩ : ∃ B, B = w5.heap.size := ⟨_, rfl⟩
 refine zrg (fun g : Nat → Nat => (⟨(.agg (qd a b c d) :: pt qu :: pt qv :: pt qt :: pt qz :: pt q1 :: pt q4 :: pt (g 14) :: pt (g 15) :: un :: un :: .pointer (some ⟨q1, 4, none⟩) :: arr b :: pt q1 :: arr a :: arr (addP b a) :: arr u :: arr (mulP (addP b a) u) :: .pointer (some ⟨q1, 4, none⟩) :: arr b :: pt q1 :: arr a :: arr (subP b a) :: arr v :: arr (mulP (subP b a) v) :: List.replicate 21 un).toArray, []⟩ : Act)) (GS w [(q4, 68, qd 0 0 0 0), (q1, 68, qd a b c d)] B7 2 14 16 37 (el 0) (fun j => match j with | 0 => el (mulP (addP b a) u) | _ => el (mulP (subP b a) v))) (fun d hd => GS.start h6.drew eB7 (by decide) (fun j _ => by rcases j with _ | j <;> exact (el_sz _ _)) (fun j hj => hd j (Nat.lt_of_lt_of_le hj (by decide)))) ?_ ?_
 ·refine zg (ghost_plain (v := .pointer (some ⟨q1, 4, none⟩))) ?_
  refine zg (ghost_held (v := arr b) (fun _ w' h' => run_part (q := q1) (off := 4 * 1) (n := b) (h'.get 1 rfl) (qd_get a b c d).2.1)) ?_
  refine zg (ghost_plain (v := .pointer (some ⟨q1, 0, none⟩))) ?_
  refine zg (ghost_held (v := arr a) (fun _ w' h' => run_part (q := q1) (off := 4 * 0) (n := a) (h'.get 1 rfl) (qd_get a b c d).1)) ?_
  refine zg (ghost_call (v := arr (addP b a)) enter87 #[arr b, arr a] (fun w' h' => Add_any b a hb ha w' (VV.below h'.old VV.big))) ?_
  refine zg (ghost_held (v := arr u) (fun _ w' h' => run_part (q := qu) (off := 0) (n := u) (hqu.keep h'.old) (fun i _ => by rw [Nat.zero_add]))) ?_
  refine zg (ghost_call (v := arr (mulP (addP b a) u)) enter80 #[arr (addP b a), arr u] (fun w' h' => Mul_any (addP b a) u (addP_lt _ _) hu w' (VV.below h'.old VV.big))) ?_
  refine zg (ghost_plain (v := .pointer (some ⟨q1, 4, none⟩))) ?_
  refine zg (ghost_held (v := arr b) (fun _ w' h' => run_part (q := q1) (off := 4 * 1) (n := b) (h'.get 1 rfl) (qd_get a b c d).2.1)) ?_
  refine zg (ghost_plain (v := .pointer (some ⟨q1, 0, none⟩))) ?_
  refine zg (ghost_held (v := arr a) (fun _ w' h' => run_part (q := q1) (off := 4 * 0) (n := a) (h'.get 1 rfl) (qd_get a b c d).1)) ?_
  refine zg (ghost_call (v := arr (subP b a)) enter79 #[arr b, arr a] (fun w' h' => Sub_any b a hb ha w' (VV.below h'.old VV.big))) ?_
  refine zg (ghost_held (v := arr v) (fun _ w' h' => run_part (q := qv) (off := 0) (n := v) (hqv.keep h'.old) (fun i _ => by rw [Nat.zero_add]))) ?_
  refine zg (ghost_call (v := arr (mulP (subP b a) v)) enter80 #[arr (subP b a), arr v] (fun w' h' => Mul_any (subP b a) v (subP_lt _ _) hv w' (VV.below h'.old VV.big))) ?_
  refine zg (ghost_make 0 rfl (fun _ _ => run_alloc25)) ?_
  refine zg (ghost_make 1 rfl (fun _ _ => run_alloc25)) ?_
  refine zg (ghost_fill 0 rfl (info_el _) (one_el _)) ?_
  refine zg (ghost_fill 1 rfl (info_el _) (one_el _)) ?_
  exact AllGhost.nil
 intro g w8 g9
 have h10 : HA w [(g 15, 37, el (mulP (subP b a) v)), (g 14, 37, el (mulP (addP b a) u)), (q4, 68, qd 0 0 0 0), (q1, 68, qd a b c d)] w8 := g9.two
 clear g9 eB7
 generalize g 14 = q11 at h10 ⊢
 generalize g 15 = q12 at h10 ⊢
 clear g
 refine then_at rfl ?_
 refine wp_seq ?_
 obtain ⟨B13, eB13⟩ : ∃ B, B = w8.heap.size := ⟨_, rfl⟩
 refine zrg (fun g : Nat → Nat => (⟨(.agg (qd a b c d) :: pt qu :: pt qv :: pt qt :: pt qz :: pt q1 :: pt q4 :: pt q11 :: pt q12 :: pt (g 8) :: pt (g 9) :: .pointer (some ⟨q1, 4, none⟩) :: arr b :: pt q1 :: arr a :: arr (addP b a) :: arr u :: arr (mulP (addP b a) u) :: .pointer (some ⟨q1, 4, none⟩) :: arr b :: pt q1 :: arr a :: arr (subP b a) :: arr v :: arr (mulP (subP b a) v) :: .pointer (some ⟨q1, 8, none⟩) :: arr c :: arr t :: arr (mulP c t) :: .pointer (some ⟨q1, 12, none⟩) :: arr d :: arr z :: arr (mulP d z) :: List.replicate 13 un).toArray, []⟩ : Act)) (GS w [(q12, 37, el (mulP (subP b a) v)), (q11, 37, el (mulP (addP b a) u)), (q4, 68, qd 0 0 0 0), (q1, 68, qd a b c d)] B13 2 8 10 37 (el 0) (fun j => match j with | 0 => el (mulP c t) | _ => el (mulP d z))) (fun d hd => GS.start h10.drew eB13 (by decide) (fun j _ => by rcases j with _ | j <;> exact (el_sz _ _)) (fun j hj => hd j (Nat.lt_of_lt_of_le hj (by decide)))) ?_ ?_
 ·refine zg (ghost_plain (v := .pointer (some ⟨q1, 8, none⟩))) ?_
  refine zg (ghost_held (v := arr c) (fun _ w' h' => run_part (q := q1) (off := 4 * 2) (n := c) (h'.get 3 rfl) (qd_get a b c d).2.2.1)) ?_
  refine zg (ghost_held (v := arr t) (fun _ w' h' => run_part (q := qt) (off := 0) (n := t) (hqt.keep h'.old) (fun i _ => by rw [Nat.zero_add]))) ?_
  refine zg (ghost_call (v := arr (mulP c t)) enter80 #[arr c, arr t] (fun w' h' => Mul_any c t hc ht w' (VV.below h'.old VV.big))) ?_
  refine zg (ghost_plain (v := .pointer (some ⟨q1, 12, none⟩))) ?_
  refine zg (ghost_held (v := arr d) (fun _ w' h' => run_part (q := q1) (off := 4 * 3) (n := d) (h'.get 3 rfl) (qd_get a b c d).2.2.2)) ?_
  refine zg (ghost_held (v := arr z) (fun _ w' h' => run_part (q := qz) (off := 0) (n := z) (hqz.keep h'.old) (fun i _ => by rw [Nat.zero_add]))) ?_
  refine zg (ghost_call (v := arr (mulP d z)) enter80 #[arr d, arr z] (fun w' h' => Mul_any d z hd hz w' (VV.below h'.old VV.big))) ?_
  refine zg (ghost_make 0 rfl (fun _ _ => run_alloc25)) ?_
  refine zg (ghost_make 1 rfl (fun _ _ => run_alloc25)) ?_
  refine zg (ghost_fill 0 rfl (info_el _) (one_el _)) ?_
  refine zg (ghost_fill 1 rfl (info_el _) (one_el _)) ?_
  exact AllGhost.nil
 intro g w14 g15
 have h16 : HA w [(g 9, 37, el (mulP d z)), (g 8, 37, el (mulP c t)), (q12, 37, el (mulP (subP b a) v)), (q11, 37, el (mulP (addP b a) u)), (q4, 68, qd 0 0 0 0), (q1, 68, qd a b c d)] w14 := g15.two
 clear g15 eB13
 generalize g 8 = q17 at h16 ⊢
 generalize g 9 = q18 at h16 ⊢
 clear g
 refine then_at rfl ?_
 refine wp_seq ?_
 obtain ⟨C19, hC19⟩ : ∃ C, C = qd (mulP (subP (mulP (addP b a) u) (mulP (subP b a) v)) (subP (mulP c t) (mulP d z))) (mulP (addP (mulP c t) (mulP d z)) (addP (mulP (addP b a) u) (mulP (subP b a) v))) (mulP (subP (mulP c t) (mulP d z)) (addP (mulP c t) (mulP d z))) (mulP (subP (mulP (addP b a) u) (mulP (subP b a) v)) (addP (mulP (addP b a) u) (mulP (subP b a) v))) := ⟨_, rfl⟩
 refine zrg (fun _ : Nat → Nat => (⟨(.agg (qd a b c d) :: pt qu :: pt qv :: pt qt :: pt qz :: pt q1 :: pt q4 :: pt q11 :: pt q12 :: pt q17 :: pt q18 :: .pointer (some ⟨q1, 4, none⟩) :: arr b :: pt q1 :: arr a :: arr (addP b a) :: arr u :: arr (mulP (addP b a) u) :: .pointer (some ⟨q1, 4, none⟩) :: arr b :: pt q1 :: arr a :: arr (subP b a) :: arr v :: arr (mulP (subP b a) v) :: .pointer (some ⟨q1, 8, none⟩) :: arr c :: arr t :: arr (mulP c t) :: .pointer (some ⟨q1, 12, none⟩) :: arr d :: arr z :: arr (mulP d z) :: arr (mulP (addP b a) u) :: arr (mulP (subP b a) v) :: arr (subP (mulP (addP b a) u) (mulP (subP b a) v)) :: arr (mulP c t) :: arr (mulP d z) :: arr (subP (mulP c t) (mulP d z)) :: arr (mulP c t) :: arr (mulP d z) :: arr (addP (mulP c t) (mulP d z)) :: arr (mulP (addP b a) u) :: arr (mulP (subP b a) v) :: arr (addP (mulP (addP b a) u) (mulP (subP b a) v)) :: .agg C19 :: List.replicate 0 un).toArray, []⟩ : Act)) (GF w [(q18, 37, el (mulP d z)), (q17, 37, el (mulP c t)), (q12, 37, el (mulP (subP b a) v)), (q11, 37, el (mulP (addP b a) u)), (q4, 68, qd 0 0 0 0), (q1, 68, qd a b c d)] 13 12 4 q4 68 (C19)) (fun d hd => GF.start h16.drew (hd 13 (by decide))) ?_ ?_
 ·refine zg (gf_load2 3 rfl Tryz.underlying37 rfl (info_el _)) ?_
  refine zg (gf_load2 2 rfl Tryz.underlying37 rfl (info_el _)) ?_
  refine zg (gf_callh (v := arr (subP (mulP (addP b a) u) (mulP (subP b a) v))) enter79 #[arr (mulP (addP b a) u), arr (mulP (subP b a) v)] (fun w' ho => Sub_any (mulP (addP b a) u) (mulP (subP b a) v) (mulP_lt _ _) (mulP_lt _ _) w' (VV.below ho VV.big))) ?_
  refine zg (gf_load2 1 rfl Tryz.underlying37 rfl (info_el _)) ?_
  refine zg (gf_load2 0 rfl Tryz.underlying37 rfl (info_el _)) ?_
  refine zg (gf_callh (v := arr (subP (mulP c t) (mulP d z))) enter79 #[arr (mulP c t), arr (mulP d z)] (fun w' ho => Sub_any (mulP c t) (mulP d z) (mulP_lt _ _) (mulP_lt _ _) w' (VV.below ho VV.big))) ?_
  refine zg (gf_load2 1 rfl Tryz.underlying37 rfl (info_el _)) ?_
  refine zg (gf_load2 0 rfl Tryz.underlying37 rfl (info_el _)) ?_
  refine zg (gf_callh (v := arr (addP (mulP c t) (mulP d z))) enter87 #[arr (mulP c t), arr (mulP d z)] (fun w' ho => Add_any (mulP c t) (mulP d z) (mulP_lt _ _) (mulP_lt _ _) w' (VV.below ho VV.big))) ?_
  refine zg (gf_load2 3 rfl Tryz.underlying37 rfl (info_el _)) ?_
  refine zg (gf_load2 2 rfl Tryz.underlying37 rfl (info_el _)) ?_
  refine zg (gf_callh (v := arr (addP (mulP (addP b a) u) (mulP (subP b a) v))) enter87 #[arr (mulP (addP b a) u), arr (mulP (subP b a) v)] (fun w' ho => Add_any (mulP (addP b a) u) (mulP (subP b a) v) (mulP_lt _ _) (mulP_lt _ _) w' (VV.below ho VV.big))) ?_
  refine zg (gf_callh (v := .agg C19) enter92 #[arr (subP (mulP (addP b a) u) (mulP (subP b a) v)), arr (subP (mulP c t) (mulP d z)), arr (addP (mulP c t) (mulP d z)), arr (addP (mulP (addP b a) u) (mulP (subP b a) v))] (fun w' ho => (by rw [hC19]; exact crossed_any (subP (mulP (addP b a) u) (mulP (subP b a) v)) (subP (mulP c t) (mulP d z)) (addP (mulP c t) (mulP d z)) (addP (mulP (addP b a) u) (mulP (subP b a) v)) (subP_lt _ _) (subP_lt _ _) (addP_lt _ _) (addP_lt _ _) w' (VV.below ho VV.big)))) ?_
  refine zg (gf_fill rfl (by rw [hC19]; exact (qd_sz (mulP (subP (mulP (addP b a) u) (mulP (subP b a) v)) (subP (mulP c t) (mulP d z))) (mulP (addP (mulP c t) (mulP d z)) (addP (mulP (addP b a) u) (mulP (subP b a) v))) (mulP (subP (mulP c t) (mulP d z)) (addP (mulP c t) (mulP d z))) (mulP (subP (mulP (addP b a) u) (mulP (subP b a) v)) (addP (mulP (addP b a) u) (mulP (subP b a) v))) 0 0 0 0)) (by rw [hC19]; exact (info82q (mulP (subP (mulP (addP b a) u) (mulP (subP b a) v)) (subP (mulP c t) (mulP d z))) (mulP (addP (mulP c t) (mulP d z)) (addP (mulP (addP b a) u) (mulP (subP b a) v))) (mulP (subP (mulP c t) (mulP d z)) (addP (mulP c t) (mulP d z))) (mulP (subP (mulP (addP b a) u) (mulP (subP b a) v)) (addP (mulP (addP b a) u) (mulP (subP b a) v))))) (by rw [hC19]; exact (one_qd (mulP (subP (mulP (addP b a) u) (mulP (subP b a) v)) (subP (mulP c t) (mulP d z))) (mulP (addP (mulP c t) (mulP d z)) (addP (mulP (addP b a) u) (mulP (subP b a) v))) (mulP (subP (mulP c t) (mulP d z)) (addP (mulP c t) (mulP d z))) (mulP (subP (mulP (addP b a) u) (mulP (subP b a) v)) (addP (mulP (addP b a) u) (mulP (subP b a) v)))))) ?_
  exact AllGhost.nil
 intro _ w20 g21
 have h22 : HA w [(q18, 37, el (mulP d z)), (q17, 37, el (mulP c t)), (q12, 37, el (mulP (subP b a) v)), (q11, 37, el (mulP (addP b a) u)), (q4, 68, C19), (q1, 68, qd a b c d)] w20 := g21.held
 clear g21
 subst hC19
 refine then_at rfl ?_
 refine wp_ret ?_
 repeat first | refine then_ret ?_ | refine block_ret ?_
 exact bodyPost_ret (res_cell (p := 6) (by kernel_rfl) (by kernel_rfl) (h22.get 4 rfl) Tryz.underlying68 rfl (info82q (mulP (subP (mulP (addP b a) u) (mulP (subP b a) v)) (subP (mulP c t) (mulP d z))) (mulP (addP (mulP c t) (mulP d z)) (addP (mulP (addP b a) u) (mulP (subP b a) v))) (mulP (subP (mulP c t) (mulP d z)) (addP (mulP c t) (mulP d z))) (mulP (subP (mulP (addP b a) u) (mulP (subP b a) v)) (addP (mulP (addP b a) u) (mulP (subP b a) v))))) rfl ⟨rfl, h22.old⟩
theorem adder_any (a b : Nat) (ha : a < P) (hb : b < P) (w : World) (VV : Vars w) :
  Calls Tryz.prog 46 #[.agg (pr a b)] w fun e w' => ∃ qu qv qt qz, e = .returned (.func (.func 91) #[] #[.pointer (some ⟨qu, 0, none⟩), .pointer (some ⟨qv, 0, none⟩), .pointer (some ⟨qt, 0, none⟩), .pointer (some ⟨qz, 0, none⟩)]) ∧ Blk w' qu 37 (el (mulP (addP (addP b 1) a) 121666)) ∧ Blk w' qv 37 (el (mulP (subP (addP b 1) a) 121666)) ∧ Blk w' qt 37 (el 243332) ∧ Blk w' qz 37 (el (negP (mulP (mulP a (addP b 1)) 243330))) ∧ Below w.heap.size w w' := by
 have H0 := HA.start w
 go_enter Tryz.func46, Tryz.ntmps46
 refine zsr ?_
 refine wl_make H0 39 (run_box27 (c := pr a b)) ?_
 intro q1 w2 h3
 refine zwv (.nilFunc) ?_
 refine znt ?_
 refine wp_seq ?_
 obtain ⟨B4, eB4⟩ : ∃ B, B = w2.heap.size := ⟨_, rfl⟩
 refine zrg (fun g : Nat → Nat => (⟨(.agg (pr a b) :: pt q1 :: .nilFunc :: pt (g 7) :: un :: un :: un :: .agg (pr a b) :: arr (addP b 1) :: pt q1 :: arr a :: arr (addP (addP b 1) a) :: arr 121666 :: arr (mulP (addP (addP b 1) a) 121666) :: List.replicate 17 un).toArray, []⟩ : Act)) (GS w [(q1, 39, pr a b)] B4 1 7 8 37 (el 0) (fun _ => el (mulP (addP (addP b 1) a) 121666))) (fun d hd => GS.start h3.drew eB4 (by decide) (fun _ _ => (el_sz _ _)) (fun j hj => hd j (Nat.lt_of_lt_of_le hj (by decide)))) ?_ ?_
 ·refine zg (ghost_load 0 rfl Tryz.underlying39 rfl (info27p a b)) ?_
  refine zg (ghost_call (v := arr (addP b 1)) enter47 #[.agg (pr a b)] (fun w' h' => y_any a b hb w' (VV.below h'.old VV.big))) ?_
  refine zg (ghost_plain (v := .pointer (some ⟨q1, 0, none⟩))) ?_
  refine zg (ghost_held (v := arr a) (fun _ w' h' => run_part (q := q1) (off := 4 * 0) (n := a) (h'.get 0 rfl) (fun i hi => pr_get0 a b i hi))) ?_
  refine zg (ghost_call (v := arr (addP (addP b 1) a)) enter87 #[arr (addP b 1), arr a] (fun w' h' => Add_any (addP b 1) a (addP_lt _ _) ha w' (VV.below h'.old VV.big))) ?_
  refine zg (ghost_call (v := arr 121666) enter41 #[iN .u32 121666] (fun w' h' => Small_any 121666 (by decide) w')) ?_
  refine zg (ghost_call (v := arr (mulP (addP (addP b 1) a) 121666)) enter80 #[arr (addP (addP b 1) a), arr 121666] (fun w' h' => Mul_any (addP (addP b 1) a) 121666 (addP_lt _ _) (by decide) w' (VV.below h'.old VV.big))) ?_
  refine zg (ghost_make 0 rfl (fun _ _ => run_alloc25)) ?_
  refine zg (ghost_fill 0 rfl (info_el _) (one_el _)) ?_
  exact AllGhost.nil
 intro g w5 g6
 have h7 : HA w [(g 7, 37, el (mulP (addP (addP b 1) a) 121666)), (q1, 39, pr a b)] w5 := g6.one
 clear g6 eB4
 generalize g 7 = q8 at h7 ⊢
 clear g
 refine then_at rfl ?_
 refine wp_seq ?_
 obtain ⟨B9, eB9⟩ : ∃ B, B = w5.heap.size := ⟨_, rfl⟩
 refine zrg (fun g : Nat → Nat => (⟨(.agg (pr a b) :: pt q1 :: .nilFunc :: pt q8 :: pt (g 7) :: un :: un :: .agg (pr a b) :: arr (addP b 1) :: pt q1 :: arr a :: arr (addP (addP b 1) a) :: arr 121666 :: arr (mulP (addP (addP b 1) a) 121666) :: .agg (pr a b) :: arr (addP b 1) :: pt q1 :: arr a :: arr (subP (addP b 1) a) :: arr 121666 :: arr (mulP (subP (addP b 1) a) 121666) :: List.replicate 10 un).toArray, []⟩ : Act)) (GS w [(q8, 37, el (mulP (addP (addP b 1) a) 121666)), (q1, 39, pr a b)] B9 1 7 8 37 (el 0) (fun _ => el (mulP (subP (addP b 1) a) 121666))) (fun d hd => GS.start h7.drew eB9 (by decide) (fun _ _ => (el_sz _ _)) (fun j hj => hd j (Nat.lt_of_lt_of_le hj (by decide)))) ?_ ?_
 ·refine zg (ghost_load 1 rfl Tryz.underlying39 rfl (info27p a b)) ?_
  refine zg (ghost_call (v := arr (addP b 1)) enter47 #[.agg (pr a b)] (fun w' h' => y_any a b hb w' (VV.below h'.old VV.big))) ?_
  refine zg (ghost_plain (v := .pointer (some ⟨q1, 0, none⟩))) ?_
  refine zg (ghost_held (v := arr a) (fun _ w' h' => run_part (q := q1) (off := 4 * 0) (n := a) (h'.get 1 rfl) (fun i hi => pr_get0 a b i hi))) ?_
  refine zg (ghost_call (v := arr (subP (addP b 1) a)) enter79 #[arr (addP b 1), arr a] (fun w' h' => Sub_any (addP b 1) a (addP_lt _ _) ha w' (VV.below h'.old VV.big))) ?_
  refine zg (ghost_call (v := arr 121666) enter41 #[iN .u32 121666] (fun w' h' => Small_any 121666 (by decide) w')) ?_
  refine zg (ghost_call (v := arr (mulP (subP (addP b 1) a) 121666)) enter80 #[arr (subP (addP b 1) a), arr 121666] (fun w' h' => Mul_any (subP (addP b 1) a) 121666 (subP_lt _ _) (by decide) w' (VV.below h'.old VV.big))) ?_
  refine zg (ghost_make 0 rfl (fun _ _ => run_alloc25)) ?_
  refine zg (ghost_fill 0 rfl (info_el _) (one_el _)) ?_
  exact AllGhost.nil
 intro g w10 g11
 have h12 : HA w [(g 7, 37, el (mulP (subP (addP b 1) a) 121666)), (q8, 37, el (mulP (addP (addP b 1) a) 121666)), (q1, 39, pr a b)] w10 := g11.one
 clear g11 eB9
 generalize g 7 = q13 at h12 ⊢
 clear g
 refine then_at rfl ?_
 refine wp_seq ?_
 obtain ⟨B14, eB14⟩ : ∃ B, B = w10.heap.size := ⟨_, rfl⟩
 refine zrg (fun g : Nat → Nat => (⟨(.agg (pr a b) :: pt q1 :: .nilFunc :: pt q8 :: pt q13 :: pt (g 8) :: un :: .agg (pr a b) :: arr (addP b 1) :: pt q1 :: arr a :: arr (addP (addP b 1) a) :: arr 121666 :: arr (mulP (addP (addP b 1) a) 121666) :: .agg (pr a b) :: arr (addP b 1) :: pt q1 :: arr a :: arr (subP (addP b 1) a) :: arr 121666 :: arr (mulP (subP (addP b 1) a) 121666) :: pt q1 :: arr a :: .agg (pr a b) :: arr (addP b 1) :: arr (mulP a (addP b 1)) :: arr 243330 :: arr (mulP (mulP a (addP b 1)) 243330) :: arr (negP (mulP (mulP a (addP b 1)) 243330)) :: List.replicate 2 un).toArray, []⟩ : Act)) (GS w [(q13, 37, el (mulP (subP (addP b 1) a) 121666)), (q8, 37, el (mulP (addP (addP b 1) a) 121666)), (q1, 39, pr a b)] B14 1 8 9 37 (el 0) (fun _ => el (negP (mulP (mulP a (addP b 1)) 243330)))) (fun d hd => GS.start h12.drew eB14 (by decide) (fun _ _ => (el_sz _ _)) (fun j hj => hd j (Nat.lt_of_lt_of_le hj (by decide)))) ?_ ?_
 ·refine zg (ghost_plain (v := .pointer (some ⟨q1, 0, none⟩))) ?_
  refine zg (ghost_held (v := arr a) (fun _ w' h' => run_part (q := q1) (off := 4 * 0) (n := a) (h'.get 2 rfl) (fun i hi => pr_get0 a b i hi))) ?_
  refine zg (ghost_load 2 rfl Tryz.underlying39 rfl (info27p a b)) ?_
  refine zg (ghost_call (v := arr (addP b 1)) enter47 #[.agg (pr a b)] (fun w' h' => y_any a b hb w' (VV.below h'.old VV.big))) ?_
  refine zg (ghost_call (v := arr (mulP a (addP b 1))) enter80 #[arr a, arr (addP b 1)] (fun w' h' => Mul_any a (addP b 1) ha (addP_lt _ _) w' (VV.below h'.old VV.big))) ?_
  refine zg (ghost_call (v := arr 243330) enter41 #[iN .u32 243330] (fun w' h' => Small_any 243330 (by decide) w')) ?_
  refine zg (ghost_call (v := arr (mulP (mulP a (addP b 1)) 243330)) enter80 #[arr (mulP a (addP b 1)), arr 243330] (fun w' h' => Mul_any (mulP a (addP b 1)) 243330 (mulP_lt _ _) (by decide) w' (VV.below h'.old VV.big))) ?_
  refine zg (ghost_call (v := arr (negP (mulP (mulP a (addP b 1)) 243330))) enter42 #[arr (mulP (mulP a (addP b 1)) 243330)] (fun w' h' => Neg_any (mulP (mulP a (addP b 1)) 243330) (mulP_lt _ _) w' (VV.below h'.old VV.big))) ?_
  refine zg (ghost_make 0 rfl (fun _ _ => run_alloc25)) ?_
  refine zg (ghost_fill 0 rfl (info_el _) (one_el _)) ?_
  exact AllGhost.nil
 intro g w15 g16
 have h17 : HA w [(g 8, 37, el (negP (mulP (mulP a (addP b 1)) 243330))), (q13, 37, el (mulP (subP (addP b 1) a) 121666)), (q8, 37, el (mulP (addP (addP b 1) a) 121666)), (q1, 39, pr a b)] w15 := g16.one
 clear g16 eB14
 generalize g 8 = q18 at h17 ⊢
 clear g
 refine then_at rfl ?_
 refine zsr ?_
 refine zwc h17 enter41 (Small_any 243332 (by decide) w15) ?_
 intro w19 h20
 refine wl_make h20 37 run_alloc25 ?_
 intro q21 w22 h23
 refine wl_fill (c' := el 243332) h23 0 rfl (el_sz _ _) (info_el _) (one_el _) ?_
 intro w24 (h25 : HA w [(q21, 37, el 243332), (q18, 37, el (negP (mulP (mulP a (addP b 1)) 243330))), (q13, 37, el (mulP (subP (addP b 1) a) 121666)), (q8, 37, el (mulP (addP (addP b 1) a) 121666)), (q1, 39, pr a b)] w24)
 refine znt ?_
 refine zsr ?_
 refine zwv (.func (.func 91) #[] #[.pointer (some ⟨q8, 0, none⟩), .pointer (some ⟨q13, 0, none⟩), .pointer (some ⟨q21, 0, none⟩), .pointer (some ⟨q18, 0, none⟩)]) ?_
 refine zwv (.func (.func 91) #[] #[.pointer (some ⟨q8, 0, none⟩), .pointer (some ⟨q13, 0, none⟩), .pointer (some ⟨q21, 0, none⟩), .pointer (some ⟨q18, 0, none⟩)]) ?_
 refine znt ?_
 refine wp_ret ?_
 repeat first | refine then_ret ?_ | refine block_ret ?_
 exact bodyPost_ret (v := .func (.func 91) #[] #[.pointer (some ⟨q8, 0, none⟩), .pointer (some ⟨q13, 0, none⟩), .pointer (some ⟨q21, 0, none⟩), .pointer (some ⟨q18, 0, none⟩)]) (by kernel_rfl) rfl ⟨q8, q13, q21, q18, rfl, (h25.get 3 rfl), (h25.get 2 rfl), (h25.get 0 rfl), (h25.get 1 rfl), h25.old⟩
end Go.Proofs.YtefjnfeckenmkaaGreatDoor
