import Derived.Test.YtbmfmamhidccbaaDoorLaw
namespace Go.Proofs.YtbmfmamhidccbaaDoor
open Go.RowKit Num
set_option linter.unusedSimpArgs false in
set_option maxRecDepth 100000 in
set_option maxHeartbeats 4000000 in
theorem FieldRing_any (l m n : List UInt8) (hl : l.length = 32) (hm : m.length = 32) (hn : n.length = 32) (w : World) (V : Vars w) :
    Calls Tryd.prog 6 #[.agg (cs l).toArray, .agg (cs m).toArray, .agg (cs n).toArray] w fun e w' => e = .returned (.bool true) ∧ Below w.heap.size w w' := by
  have hV := V.big
  obtain ⟨c0, hc0⟩ : ∃ c, c = (cs l).toArray := ⟨_, rfl⟩
  obtain ⟨c1, hc1⟩ : ∃ c, c = (cs m).toArray := ⟨_, rfl⟩
  obtain ⟨c2, hc2⟩ : ∃ c, c = (cs n).toArray := ⟨_, rfl⟩
  have KA := hide (fun w V => any1_any l hl w V)
  have KB := hide (fun w V => any1_any m hm w V)
  have KC := hide (fun w V => any1_any n hn w V)
  rw [← hc0] at KA
  rw [← hc1] at KB
  rw [← hc2] at KC
  rw [← hc0, ← hc1, ← hc2]
  have KW := hide (fun w V => works_any w V)
  have VV := hide V
  have hz0 : c0.size = 32 := by rw [hc0]; simp [cs, hl]
  have hz1 : c1.size = 32 := by rw [hc1]; simp [cs, hm]
  have hz2 : c2.size = 32 := by rw [hc2]; simp [cs, hn]
  have ha := anyP_lt l
  have hb := anyP_lt m
  have hc := anyP_lt n
  generalize anyP l = a at *
  generalize anyP m = b at *
  generalize anyP n = c at *
  clear hc0 hc1 hc2 V hl hm hn
  go_enter Tryd.func6, Tryd.ntmps6
  go_wp2_with fail
  have H0 := hide (((HA.start (Below.refl _ w)).make 40 c0).make 40 c1 |>.make 40 c2)
  refine (KW.out _ (VV.out.below H0.out.1 VV.out.big)).mono ?_
  rintro e w1 ⟨rfl, hb1⟩
  have H1 : Hid (HA w [(w.heap.size + 1 + 1, 40, c2), (w.heap.size + 1, 40, c1), (w.heap.size, 40, c0)] w1) := by
    have h := HA.keep _ _ H0.out hb1
    show HA _ _ _
    simpa using h
  have hs1 : w.heap.size + 3 ≤ w1.heap.size := by have := hb1.size; simp at this; omega
  clear hb1 H0 KW
  go_wp2_with fail
  refine wp_region_ghost (fun g : Nat → Nat => (⟨List.toArray (.agg c0 :: .agg c1 :: .agg c2 :: .pointer (some ⟨w.heap.size, 0, none⟩) :: .pointer (some ⟨w.heap.size + 1, 0, none⟩) :: .pointer (some ⟨w.heap.size + 1 + 1, 0, none⟩) :: .bool false :: .pointer (some ⟨g 6, 0, none⟩) :: .pointer (some ⟨g 7, 0, none⟩) :: .pointer (some ⟨g 8, 0, none⟩) :: .bool true :: .bool false :: .agg c0 :: arr a :: .agg c1 :: arr b :: .agg c2 :: arr c :: undef :: undef :: undef :: undef :: undef :: undef :: undef :: undef :: undef :: undef :: undef :: undef :: undef :: undef :: undef :: undef :: undef :: undef :: undef :: undef :: undef :: undef :: undef :: undef :: undef :: undef :: undef :: undef :: undef :: undef :: undef :: undef :: undef :: undef :: undef :: undef :: undef :: undef :: undef :: undef :: undef :: undef :: undef :: undef :: undef :: undef :: undef :: undef :: undef :: undef :: undef :: undef :: undef :: undef :: undef :: undef :: undef :: undef :: undef :: undef :: undef :: undef :: undef :: undef :: undef :: undef :: undef :: undef :: undef :: undef :: undef :: undef :: undef :: undef :: undef :: undef :: undef :: undef :: undef :: undef :: undef :: undef :: undef :: undef :: undef :: undef :: undef :: undef :: undef :: undef :: undef :: []), []⟩ : Act)) (GS w w.heap.size 3 (w.heap.size + 3) 40 (fun j => if j = 0 then c0 else if j = 1 then c1 else c2) 3 6 9 26 (el 0) (fun j => el ([a, b, c].getD j 0))) [.agg c0, arr a, .agg c1, arr b, .agg c2, arr c, .pointer (some ⟨0, 0, none⟩), .pointer (some ⟨0, 0, none⟩), .pointer (some ⟨0, 0, none⟩), undef, undef, undef] (by kernel_rfl) (by kernel_rfl) (by kernel_rfl) (by kernel_rfl) (fun _ _ _ _ h => h) (fun d hd => GS.start H1.out.1.drew hs1 (by omega) (by omega) ?_ (by decide) (fun _ _ => rfl) (fun j hj => hd j hj)) ?_ ?_
  · intro j hj
    match j, hj with
    | 0, _ => exact H1.out.drew.get 2 rfl
    | 1, _ => exact H1.out.drew.get 1 rfl
    | 2, _ => exact H1.out.drew.get 0 rfl
  · refine AllGhost.cons (ghost_box 0 (by decide) (by decide) (fun _ => by kernel_rfl) (fun _ => by kernel_rfl) (fun _ => by kernel_rfl) Tryd.underlying40 rfl (by show _ = some c0.size; rw [hz0]; exact info40)) ?_
    refine AllGhost.cons (ghost_call (v := arr a) (fun _ => by kernel_rfl) (fun _ => by kernel_rfl) enter20 (fun _ _ _ _ h hb => h.call (by decide) hb) #[.agg c0] (fun _ => by kernel_rfl) (fun _ _ _ h => KA.out _ (VV.out.below h.old VV.out.big))) ?_
    refine AllGhost.cons (ghost_box 1 (by decide) (by decide) (fun _ => by kernel_rfl) (fun _ => by kernel_rfl) (fun _ => by kernel_rfl) Tryd.underlying40 rfl (by show _ = some c1.size; rw [hz1]; exact info40)) ?_
    refine AllGhost.cons (ghost_call (v := arr b) (fun _ => by kernel_rfl) (fun _ => by kernel_rfl) enter20 (fun _ _ _ _ h hb => h.call (by decide) hb) #[.agg c1] (fun _ => by kernel_rfl) (fun _ _ _ h => KB.out _ (VV.out.below h.old VV.out.big))) ?_
    refine AllGhost.cons (ghost_box 2 (by decide) (by decide) (fun _ => by kernel_rfl) (fun _ => by kernel_rfl) (fun _ => by kernel_rfl) Tryd.underlying40 rfl (by show _ = some c2.size; rw [hz2]; exact info40)) ?_
    refine AllGhost.cons (ghost_call (v := arr c) (fun _ => by kernel_rfl) (fun _ => by kernel_rfl) enter20 (fun _ _ _ _ h hb => h.call (by decide) hb) #[.agg c2] (fun _ => by kernel_rfl) (fun _ _ _ h => KC.out _ (VV.out.below h.old VV.out.big))) ?_
    refine AllGhost.cons (ghost_make 0 (by decide) rfl (fun _ => by kernel_rfl) (fun _ _ => by kernel_rfl) (fun _ _ => run_alloc_el)) ?_
    refine AllGhost.cons (ghost_make 1 (by decide) rfl (fun _ => by kernel_rfl) (fun _ _ => by kernel_rfl) (fun _ _ => run_alloc_el)) ?_
    refine AllGhost.cons (ghost_make 2 (by decide) rfl (fun _ => by kernel_rfl) (fun _ _ => by kernel_rfl) (fun _ _ => run_alloc_el)) ?_
    refine AllGhost.cons (ghost_fill 0 (by decide) rfl (fun _ => by kernel_rfl) (fun _ => by kernel_rfl) (fun _ => by kernel_rfl) (fun _ => by kernel_rfl) info26 (one_el _) (by kernel_rfl)) ?_
    refine AllGhost.cons (ghost_fill 1 (by decide) rfl (fun _ => by kernel_rfl) (fun _ => by kernel_rfl) (fun _ => by kernel_rfl) (fun _ => by kernel_rfl) info26 (one_el _) (by kernel_rfl)) ?_
    refine AllGhost.cons (ghost_fill 2 (by decide) rfl (fun _ => by kernel_rfl) (fun _ => by kernel_rfl) (fun _ => by kernel_rfl) (fun _ => by kernel_rfl) info26 (one_el _) (by kernel_rfl)) ?_
    exact AllGhost.nil
  intro g w2 hG
  have HB := hide hG.old
  have e0 := hG.new.own 0 (by decide) rfl
  have e1 := hG.new.own 1 (by decide) rfl
  have e2 := hG.new.own 2 (by decide) rfl
  have H2 : Hid (HA w [(g 6, 26, el a), (g 7, 26, el b), (g 8, 26, el c)] w2) := (((HA.start HB.out).more e2.2).more e1.2).more e0.2
  clear hG HB e0 e1 e2 H1 hs1
  generalize g 6 = qa at *
  generalize g 7 = qb at *
  generalize g 8 = qc at *
  clear KA KB KC
  go_wp2_with fail
  refine wp_region_sure ⟨List.toArray (.agg c0 :: .agg c1 :: .agg c2 :: .pointer (some ⟨w.heap.size, 0, none⟩) :: .pointer (some ⟨w.heap.size + 1, 0, none⟩) :: .pointer (some ⟨w.heap.size + 1 + 1, 0, none⟩) :: .bool true :: .pointer (some ⟨qa, 0, none⟩) :: .pointer (some ⟨qb, 0, none⟩) :: .pointer (some ⟨qc, 0, none⟩) :: .bool true :: .bool false :: .agg c0 :: arr a :: .agg c1 :: arr b :: .agg c2 :: arr c :: arr a :: arr b :: arr (addP a b) :: arr b :: arr a :: arr (addP b a) :: .bool true :: .bool true :: arr a :: arr b :: arr (mulP a b) :: arr b :: arr a :: arr (mulP b a) :: .bool true :: .bool true :: .bool true :: arr a :: arr b :: arr (addP a b) :: arr c :: arr (addP (addP a b) c) :: arr a :: arr b :: arr c :: arr (addP b c) :: arr (addP a (addP b c)) :: .bool true :: .bool true :: .bool true :: arr a :: arr b :: arr (mulP a b) :: arr c :: arr (mulP (mulP a b) c) :: arr a :: arr b :: arr c :: arr (mulP b c) :: arr (mulP a (mulP b c)) :: .bool true :: .bool true :: .bool true :: arr a :: arr b :: arr (addP a b) :: arr c :: arr (mulP (addP a b) c) :: arr a :: arr c :: arr (mulP a c) :: arr b :: arr c :: arr (mulP b c) :: arr (addP (mulP a c) (mulP b c)) :: .bool true :: .bool true :: .bool true :: arr a :: arr b :: arr (subP a b) :: arr b :: arr (addP (subP a b) b) :: arr a :: .bool true :: .bool true :: .bool true :: arr a :: arr a :: arr (negP a) :: arr (addP a (negP a)) :: arr 0 :: .bool true :: .bool true :: .bool true :: arr a :: arr 1 :: arr (mulP a 1) :: arr a :: .bool true :: .bool true :: .bool true :: arr a :: arr b :: arr (subP a b) :: arr b :: arr a :: arr (subP b a) :: arr (negP (subP b a)) :: .bool true :: .bool true :: []), []⟩ (HA w [(qa, 26, el a), (qb, 26, el b), (qc, 26, el c)]) [arr a, arr b, arr (addP a b), arr b, arr a, arr (addP b a), .bool true, .bool true, arr a, arr b, arr (mulP a b), arr b, arr a, arr (mulP b a), .bool true, .bool true, .bool true, arr a, arr b, arr (addP a b), arr c, arr (addP (addP a b) c), arr a, arr b, arr c, arr (addP b c), arr (addP a (addP b c)), .bool true, .bool true, .bool true, arr a, arr b, arr (mulP a b), arr c, arr (mulP (mulP a b) c), arr a, arr b, arr c, arr (mulP b c), arr (mulP a (mulP b c)), .bool true, .bool true, .bool true, arr a, arr b, arr (addP a b), arr c, arr (mulP (addP a b) c), arr a, arr c, arr (mulP a c), arr b, arr c, arr (mulP b c), arr (addP (mulP a c) (mulP b c)), .bool true, .bool true, .bool true, arr a, arr b, arr (subP a b), arr b, arr (addP (subP a b) b), arr a, .bool true, .bool true, .bool true, arr a, arr a, arr (negP a), arr (addP a (negP a)), arr 0, .bool true, .bool true, .bool true, arr a, arr 1, arr (mulP a 1), arr a, .bool true, .bool true, .bool true, arr a, arr b, arr (subP a b), arr b, arr a, arr (subP b a), arr (negP (subP b a)), .bool true, .bool true, .bool true] (by kernel_rfl) (by kernel_rfl) (by kernel_rfl) (by kernel_rfl) (fun _ _ _ h => h) ?_ ?_ ?_
  · exact H2.out.drew
  · refine AllSure.cons (sure_load (q := qa) (n := a) (by kernel_rfl) (by kernel_rfl) (by kernel_rfl) (fun _ h => h.get 0 rfl)) ?_
    refine AllSure.cons (sure_load (q := qb) (n := b) (by kernel_rfl) (by kernel_rfl) (by kernel_rfl) (fun _ h => h.get 1 rfl)) ?_
    refine AllSure.cons (sure_call (by kernel_rfl) (by kernel_rfl) enter22 HA.keep #[arr a, arr b] (by kernel_rfl) (fun w h => Add_any a b ha hb w (VV.out.below h.1 VV.out.big))) ?_
    refine AllSure.cons (sure_load (q := qb) (n := b) (by kernel_rfl) (by kernel_rfl) (by kernel_rfl) (fun _ h => h.get 1 rfl)) ?_
    refine AllSure.cons (sure_load (q := qa) (n := a) (by kernel_rfl) (by kernel_rfl) (by kernel_rfl) (fun _ h => h.get 0 rfl)) ?_
    refine AllSure.cons (sure_call (by kernel_rfl) (by kernel_rfl) enter22 HA.keep #[arr b, arr a] (by kernel_rfl) (fun w h => Add_any b a hb ha w (VV.out.below h.1 VV.out.big))) ?_
    refine AllSure.cons (sure_call (by kernel_rfl) (by kernel_rfl) enter30 HA.keep #[arr (addP a b), arr (addP b a)] (by kernel_rfl) (fun w _ => Same_yes (addP a b) (addP b a) (addP_lt _ _) (addP_lt _ _) (addP_comm a b) w)) ?_
    refine AllSure.cons (sure_plain (v := .bool true) (by kernel_rfl) (by kernel_rfl) (fun _ => rfl)) ?_
    refine AllSure.cons (sure_load (q := qa) (n := a) (by kernel_rfl) (by kernel_rfl) (by kernel_rfl) (fun _ h => h.get 0 rfl)) ?_
    refine AllSure.cons (sure_load (q := qb) (n := b) (by kernel_rfl) (by kernel_rfl) (by kernel_rfl) (fun _ h => h.get 1 rfl)) ?_
    refine AllSure.cons (sure_call (by kernel_rfl) (by kernel_rfl) enter26 HA.keep #[arr a, arr b] (by kernel_rfl) (fun w h => Mul_any a b ha hb w (VV.out.below h.1 VV.out.big))) ?_
    refine AllSure.cons (sure_load (q := qb) (n := b) (by kernel_rfl) (by kernel_rfl) (by kernel_rfl) (fun _ h => h.get 1 rfl)) ?_
    refine AllSure.cons (sure_load (q := qa) (n := a) (by kernel_rfl) (by kernel_rfl) (by kernel_rfl) (fun _ h => h.get 0 rfl)) ?_
    refine AllSure.cons (sure_call (by kernel_rfl) (by kernel_rfl) enter26 HA.keep #[arr b, arr a] (by kernel_rfl) (fun w h => Mul_any b a hb ha w (VV.out.below h.1 VV.out.big))) ?_
    refine AllSure.cons (sure_call (by kernel_rfl) (by kernel_rfl) enter30 HA.keep #[arr (mulP a b), arr (mulP b a)] (by kernel_rfl) (fun w _ => Same_yes (mulP a b) (mulP b a) (mulP_lt _ _) (mulP_lt _ _) (mulP_comm a b) w)) ?_
    refine AllSure.cons (sure_plain (v := .bool true) (by kernel_rfl) (by kernel_rfl) (fun _ => rfl)) ?_
    refine AllSure.cons (sure_plain (v := .bool true) (by kernel_rfl) (by kernel_rfl) (fun _ => rfl)) ?_
    refine AllSure.cons (sure_load (q := qa) (n := a) (by kernel_rfl) (by kernel_rfl) (by kernel_rfl) (fun _ h => h.get 0 rfl)) ?_
    refine AllSure.cons (sure_load (q := qb) (n := b) (by kernel_rfl) (by kernel_rfl) (by kernel_rfl) (fun _ h => h.get 1 rfl)) ?_
    refine AllSure.cons (sure_call (by kernel_rfl) (by kernel_rfl) enter22 HA.keep #[arr a, arr b] (by kernel_rfl) (fun w h => Add_any a b ha hb w (VV.out.below h.1 VV.out.big))) ?_
    refine AllSure.cons (sure_load (q := qc) (n := c) (by kernel_rfl) (by kernel_rfl) (by kernel_rfl) (fun _ h => h.get 2 rfl)) ?_
    refine AllSure.cons (sure_call (by kernel_rfl) (by kernel_rfl) enter22 HA.keep #[arr (addP a b), arr c] (by kernel_rfl) (fun w h => Add_any (addP a b) c (addP_lt _ _) hc w (VV.out.below h.1 VV.out.big))) ?_
    refine AllSure.cons (sure_load (q := qa) (n := a) (by kernel_rfl) (by kernel_rfl) (by kernel_rfl) (fun _ h => h.get 0 rfl)) ?_
    refine AllSure.cons (sure_load (q := qb) (n := b) (by kernel_rfl) (by kernel_rfl) (by kernel_rfl) (fun _ h => h.get 1 rfl)) ?_
    refine AllSure.cons (sure_load (q := qc) (n := c) (by kernel_rfl) (by kernel_rfl) (by kernel_rfl) (fun _ h => h.get 2 rfl)) ?_
    refine AllSure.cons (sure_call (by kernel_rfl) (by kernel_rfl) enter22 HA.keep #[arr b, arr c] (by kernel_rfl) (fun w h => Add_any b c hb hc w (VV.out.below h.1 VV.out.big))) ?_
    refine AllSure.cons (sure_call (by kernel_rfl) (by kernel_rfl) enter22 HA.keep #[arr a, arr (addP b c)] (by kernel_rfl) (fun w h => Add_any a (addP b c) ha (addP_lt _ _) w (VV.out.below h.1 VV.out.big))) ?_
    refine AllSure.cons (sure_call (by kernel_rfl) (by kernel_rfl) enter30 HA.keep #[arr (addP (addP a b) c), arr (addP a (addP b c))] (by kernel_rfl) (fun w _ => Same_yes (addP (addP a b) c) (addP a (addP b c)) (addP_lt _ _) (addP_lt _ _) (addP_assoc a b c) w)) ?_
    refine AllSure.cons (sure_plain (v := .bool true) (by kernel_rfl) (by kernel_rfl) (fun _ => rfl)) ?_
    refine AllSure.cons (sure_plain (v := .bool true) (by kernel_rfl) (by kernel_rfl) (fun _ => rfl)) ?_
    refine AllSure.cons (sure_load (q := qa) (n := a) (by kernel_rfl) (by kernel_rfl) (by kernel_rfl) (fun _ h => h.get 0 rfl)) ?_
    refine AllSure.cons (sure_load (q := qb) (n := b) (by kernel_rfl) (by kernel_rfl) (by kernel_rfl) (fun _ h => h.get 1 rfl)) ?_
    refine AllSure.cons (sure_call (by kernel_rfl) (by kernel_rfl) enter26 HA.keep #[arr a, arr b] (by kernel_rfl) (fun w h => Mul_any a b ha hb w (VV.out.below h.1 VV.out.big))) ?_
    refine AllSure.cons (sure_load (q := qc) (n := c) (by kernel_rfl) (by kernel_rfl) (by kernel_rfl) (fun _ h => h.get 2 rfl)) ?_
    refine AllSure.cons (sure_call (by kernel_rfl) (by kernel_rfl) enter26 HA.keep #[arr (mulP a b), arr c] (by kernel_rfl) (fun w h => Mul_any (mulP a b) c (mulP_lt _ _) hc w (VV.out.below h.1 VV.out.big))) ?_
    refine AllSure.cons (sure_load (q := qa) (n := a) (by kernel_rfl) (by kernel_rfl) (by kernel_rfl) (fun _ h => h.get 0 rfl)) ?_
    refine AllSure.cons (sure_load (q := qb) (n := b) (by kernel_rfl) (by kernel_rfl) (by kernel_rfl) (fun _ h => h.get 1 rfl)) ?_
    refine AllSure.cons (sure_load (q := qc) (n := c) (by kernel_rfl) (by kernel_rfl) (by kernel_rfl) (fun _ h => h.get 2 rfl)) ?_
    refine AllSure.cons (sure_call (by kernel_rfl) (by kernel_rfl) enter26 HA.keep #[arr b, arr c] (by kernel_rfl) (fun w h => Mul_any b c hb hc w (VV.out.below h.1 VV.out.big))) ?_
    refine AllSure.cons (sure_call (by kernel_rfl) (by kernel_rfl) enter26 HA.keep #[arr a, arr (mulP b c)] (by kernel_rfl) (fun w h => Mul_any a (mulP b c) ha (mulP_lt _ _) w (VV.out.below h.1 VV.out.big))) ?_
    refine AllSure.cons (sure_call (by kernel_rfl) (by kernel_rfl) enter30 HA.keep #[arr (mulP (mulP a b) c), arr (mulP a (mulP b c))] (by kernel_rfl) (fun w _ => Same_yes (mulP (mulP a b) c) (mulP a (mulP b c)) (mulP_lt _ _) (mulP_lt _ _) (mulP_assoc a b c) w)) ?_
    refine AllSure.cons (sure_plain (v := .bool true) (by kernel_rfl) (by kernel_rfl) (fun _ => rfl)) ?_
    refine AllSure.cons (sure_plain (v := .bool true) (by kernel_rfl) (by kernel_rfl) (fun _ => rfl)) ?_
    refine AllSure.cons (sure_load (q := qa) (n := a) (by kernel_rfl) (by kernel_rfl) (by kernel_rfl) (fun _ h => h.get 0 rfl)) ?_
    refine AllSure.cons (sure_load (q := qb) (n := b) (by kernel_rfl) (by kernel_rfl) (by kernel_rfl) (fun _ h => h.get 1 rfl)) ?_
    refine AllSure.cons (sure_call (by kernel_rfl) (by kernel_rfl) enter22 HA.keep #[arr a, arr b] (by kernel_rfl) (fun w h => Add_any a b ha hb w (VV.out.below h.1 VV.out.big))) ?_
    refine AllSure.cons (sure_load (q := qc) (n := c) (by kernel_rfl) (by kernel_rfl) (by kernel_rfl) (fun _ h => h.get 2 rfl)) ?_
    refine AllSure.cons (sure_call (by kernel_rfl) (by kernel_rfl) enter26 HA.keep #[arr (addP a b), arr c] (by kernel_rfl) (fun w h => Mul_any (addP a b) c (addP_lt _ _) hc w (VV.out.below h.1 VV.out.big))) ?_
    refine AllSure.cons (sure_load (q := qa) (n := a) (by kernel_rfl) (by kernel_rfl) (by kernel_rfl) (fun _ h => h.get 0 rfl)) ?_
    refine AllSure.cons (sure_load (q := qc) (n := c) (by kernel_rfl) (by kernel_rfl) (by kernel_rfl) (fun _ h => h.get 2 rfl)) ?_
    refine AllSure.cons (sure_call (by kernel_rfl) (by kernel_rfl) enter26 HA.keep #[arr a, arr c] (by kernel_rfl) (fun w h => Mul_any a c ha hc w (VV.out.below h.1 VV.out.big))) ?_
    refine AllSure.cons (sure_load (q := qb) (n := b) (by kernel_rfl) (by kernel_rfl) (by kernel_rfl) (fun _ h => h.get 1 rfl)) ?_
    refine AllSure.cons (sure_load (q := qc) (n := c) (by kernel_rfl) (by kernel_rfl) (by kernel_rfl) (fun _ h => h.get 2 rfl)) ?_
    refine AllSure.cons (sure_call (by kernel_rfl) (by kernel_rfl) enter26 HA.keep #[arr b, arr c] (by kernel_rfl) (fun w h => Mul_any b c hb hc w (VV.out.below h.1 VV.out.big))) ?_
    refine AllSure.cons (sure_call (by kernel_rfl) (by kernel_rfl) enter22 HA.keep #[arr (mulP a c), arr (mulP b c)] (by kernel_rfl) (fun w h => Add_any (mulP a c) (mulP b c) (mulP_lt _ _) (mulP_lt _ _) w (VV.out.below h.1 VV.out.big))) ?_
    refine AllSure.cons (sure_call (by kernel_rfl) (by kernel_rfl) enter30 HA.keep #[arr (mulP (addP a b) c), arr (addP (mulP a c) (mulP b c))] (by kernel_rfl) (fun w _ => Same_yes (mulP (addP a b) c) (addP (mulP a c) (mulP b c)) (mulP_lt _ _) (addP_lt _ _) (mulP_add a b c) w)) ?_
    refine AllSure.cons (sure_plain (v := .bool true) (by kernel_rfl) (by kernel_rfl) (fun _ => rfl)) ?_
    refine AllSure.cons (sure_plain (v := .bool true) (by kernel_rfl) (by kernel_rfl) (fun _ => rfl)) ?_
    refine AllSure.cons (sure_load (q := qa) (n := a) (by kernel_rfl) (by kernel_rfl) (by kernel_rfl) (fun _ h => h.get 0 rfl)) ?_
    refine AllSure.cons (sure_load (q := qb) (n := b) (by kernel_rfl) (by kernel_rfl) (by kernel_rfl) (fun _ h => h.get 1 rfl)) ?_
    refine AllSure.cons (sure_call (by kernel_rfl) (by kernel_rfl) enter24 HA.keep #[arr a, arr b] (by kernel_rfl) (fun w h => Sub_any a b ha hb w (VV.out.below h.1 VV.out.big))) ?_
    refine AllSure.cons (sure_load (q := qb) (n := b) (by kernel_rfl) (by kernel_rfl) (by kernel_rfl) (fun _ h => h.get 1 rfl)) ?_
    refine AllSure.cons (sure_call (by kernel_rfl) (by kernel_rfl) enter22 HA.keep #[arr (subP a b), arr b] (by kernel_rfl) (fun w h => Add_any (subP a b) b (subP_lt _ _) hb w (VV.out.below h.1 VV.out.big))) ?_
    refine AllSure.cons (sure_load (q := qa) (n := a) (by kernel_rfl) (by kernel_rfl) (by kernel_rfl) (fun _ h => h.get 0 rfl)) ?_
    refine AllSure.cons (sure_call (by kernel_rfl) (by kernel_rfl) enter30 HA.keep #[arr (addP (subP a b) b), arr a] (by kernel_rfl) (fun w _ => Same_yes (addP (subP a b) b) a (addP_lt _ _) ha (sub_add a b ha hb) w)) ?_
    refine AllSure.cons (sure_plain (v := .bool true) (by kernel_rfl) (by kernel_rfl) (fun _ => rfl)) ?_
    refine AllSure.cons (sure_plain (v := .bool true) (by kernel_rfl) (by kernel_rfl) (fun _ => rfl)) ?_
    refine AllSure.cons (sure_load (q := qa) (n := a) (by kernel_rfl) (by kernel_rfl) (by kernel_rfl) (fun _ h => h.get 0 rfl)) ?_
    refine AllSure.cons (sure_load (q := qa) (n := a) (by kernel_rfl) (by kernel_rfl) (by kernel_rfl) (fun _ h => h.get 0 rfl)) ?_
    refine AllSure.cons (sure_call (by kernel_rfl) (by kernel_rfl) enter28 HA.keep #[arr a] (by kernel_rfl) (fun w h => Neg_any a ha w (VV.out.below h.1 VV.out.big))) ?_
    refine AllSure.cons (sure_call (by kernel_rfl) (by kernel_rfl) enter22 HA.keep #[arr a, arr (negP a)] (by kernel_rfl) (fun w h => Add_any a (negP a) ha (negP_lt _) w (VV.out.below h.1 VV.out.big))) ?_
    refine AllSure.cons (sure_call (by kernel_rfl) (by kernel_rfl) enter17 HA.keep #[.int .u32 0] (by kernel_rfl) (fun w _ => Small_any 0 (by decide) w)) ?_
    refine AllSure.cons (sure_call (by kernel_rfl) (by kernel_rfl) enter30 HA.keep #[arr (addP a (negP a)), arr 0] (by kernel_rfl) (fun w _ => Same_yes (addP a (negP a)) 0 (addP_lt _ _) (by decide) (add_neg a ha) w)) ?_
    refine AllSure.cons (sure_plain (v := .bool true) (by kernel_rfl) (by kernel_rfl) (fun _ => rfl)) ?_
    refine AllSure.cons (sure_plain (v := .bool true) (by kernel_rfl) (by kernel_rfl) (fun _ => rfl)) ?_
    refine AllSure.cons (sure_load (q := qa) (n := a) (by kernel_rfl) (by kernel_rfl) (by kernel_rfl) (fun _ h => h.get 0 rfl)) ?_
    refine AllSure.cons (sure_call (by kernel_rfl) (by kernel_rfl) enter17 HA.keep #[.int .u32 1] (by kernel_rfl) (fun w _ => Small_any 1 (by decide) w)) ?_
    refine AllSure.cons (sure_call (by kernel_rfl) (by kernel_rfl) enter26 HA.keep #[arr a, arr 1] (by kernel_rfl) (fun w h => Mul_any a 1 ha (by decide) w (VV.out.below h.1 VV.out.big))) ?_
    refine AllSure.cons (sure_load (q := qa) (n := a) (by kernel_rfl) (by kernel_rfl) (by kernel_rfl) (fun _ h => h.get 0 rfl)) ?_
    refine AllSure.cons (sure_call (by kernel_rfl) (by kernel_rfl) enter30 HA.keep #[arr (mulP a 1), arr a] (by kernel_rfl) (fun w _ => Same_yes (mulP a 1) a (mulP_lt _ _) ha (mulP_one a ha) w)) ?_
    refine AllSure.cons (sure_plain (v := .bool true) (by kernel_rfl) (by kernel_rfl) (fun _ => rfl)) ?_
    refine AllSure.cons (sure_plain (v := .bool true) (by kernel_rfl) (by kernel_rfl) (fun _ => rfl)) ?_
    refine AllSure.cons (sure_load (q := qa) (n := a) (by kernel_rfl) (by kernel_rfl) (by kernel_rfl) (fun _ h => h.get 0 rfl)) ?_
    refine AllSure.cons (sure_load (q := qb) (n := b) (by kernel_rfl) (by kernel_rfl) (by kernel_rfl) (fun _ h => h.get 1 rfl)) ?_
    refine AllSure.cons (sure_call (by kernel_rfl) (by kernel_rfl) enter24 HA.keep #[arr a, arr b] (by kernel_rfl) (fun w h => Sub_any a b ha hb w (VV.out.below h.1 VV.out.big))) ?_
    refine AllSure.cons (sure_load (q := qb) (n := b) (by kernel_rfl) (by kernel_rfl) (by kernel_rfl) (fun _ h => h.get 1 rfl)) ?_
    refine AllSure.cons (sure_load (q := qa) (n := a) (by kernel_rfl) (by kernel_rfl) (by kernel_rfl) (fun _ h => h.get 0 rfl)) ?_
    refine AllSure.cons (sure_call (by kernel_rfl) (by kernel_rfl) enter24 HA.keep #[arr b, arr a] (by kernel_rfl) (fun w h => Sub_any b a hb ha w (VV.out.below h.1 VV.out.big))) ?_
    refine AllSure.cons (sure_call (by kernel_rfl) (by kernel_rfl) enter28 HA.keep #[arr (subP b a)] (by kernel_rfl) (fun w h => Neg_any (subP b a) (subP_lt _ _) w (VV.out.below h.1 VV.out.big))) ?_
    refine AllSure.cons (sure_call (by kernel_rfl) (by kernel_rfl) enter30 HA.keep #[arr (subP a b), arr (negP (subP b a))] (by kernel_rfl) (fun w _ => Same_yes (subP a b) (negP (subP b a)) (subP_lt _ _) (negP_lt _) (sub_neg a b ha hb) w)) ?_
    refine AllSure.cons (sure_plain (v := .bool true) (by kernel_rfl) (by kernel_rfl) (fun _ => rfl)) ?_
    refine AllSure.cons (sure_plain (v := .bool true) (by kernel_rfl) (by kernel_rfl) (fun _ => rfl)) ?_
    exact AllSure.nil
  intro w3 h3
  have hB := h3.1
  clear h3 H2
  go_wp2
  go_ret
  exact ⟨rfl, hB⟩
end Go.Proofs.YtbmfmamhidccbaaDoor
