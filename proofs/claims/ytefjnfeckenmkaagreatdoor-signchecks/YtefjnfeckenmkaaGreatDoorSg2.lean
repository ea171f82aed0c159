/-
 sign: Public, Sign, Verify.
-/
import Derived.Test.YtefjnfeckenmkaaGreatDoorSg1
namespace Go.Proofs.YtefjnfeckenmkaaGreatDoor
set_option linter.unusedVariables false
set_option maxRecDepth 100000
set_option maxHeartbeats 2000000
open Go.RowKit Num
theorem Public_yes (s : ByteArray) (hs : s.size = 32) (w : World) (VV : VA w) :
  Calls Tryz.prog 5 #[.string s] w fun e w' => e = .returned (.tuple #[.string (pkS (hS s)), iN .i64 0]) ∧ Below w.heap.size w w' := by
 have H0 := HA.start w
 go_enter Tryz.func5, Tryz.ntmps5
 refine zsr ?_
 refine zwv (.string { data := #[] }) ?_
 refine zwv (iN .i64 0) ?_
 refine znt ?_
 refine wp_seq ?_
 refine zsr ?_
 refine zwv (.string s) ?_
 refine zwu (run_len (s := s)) ?_
 refine zwu (run_nei (k := .i64) (a := s.size) (b := 32) false (decide_eq_false (fun h => h hs))) ?_
 refine znt ?_
 refine zcf ?_
 refine wp_skip ?_
 refine then_at rfl ?_
 refine zsr ?_
 refine zwv (.string s) ?_
 refine wl_calln (mk := fun q => .func (.func 38) #[] #[.pointer (some ⟨q, 0, none⟩)]) (t := 9) (c := #[.string (hS s)]) H0 (by kernel_rfl) ent12 #[.string s] (by kernel_rfl) (partsOf_any s hs w (VV.below H0.old VV.big)) ?_
 intro q1 w2 h3
 refine wl_callv (v := .string (pkS (hS s))) h3 ent38 (cap := #[.pointer (some ⟨q1, 0, none⟩)]) #[iN .i64 2, .pointer (some ⟨q1, 0, none⟩)] (parts_2 (hS s) (hS_size s) q1 w2 (VV.below h3.old VV.big) (h3.get 0 rfl)) ?_
 intro w4 h5
 refine zwv (.string (pkS (hS s))) ?_
 refine zwv (iN .i64 0) ?_
 refine znt ?_
 exact wp_ret (zb h5.old)
theorem Sign_yes (s t : ByteArray) (hs : s.size = 32) (ht : t.size ≤ 562949953421312) (w : World) (VV : VA w) :
  Calls Tryz.prog 7 #[.string s, .string t] w fun e w' => e = .returned (.tuple #[.string (sigS s t), iN .i64 0]) ∧ Below w.heap.size w w' := by
 have H0 := HA.start w
 go_enter Tryz.func7, Tryz.ntmps7
 refine zsr ?_
 refine zwv (.string { data := #[] }) ?_
 refine zwv (iN .i64 0) ?_
 refine znt ?_
 refine wp_seq ?_
 refine zsr ?_
 refine zwv (.string s) ?_
 refine zwu (run_len (s := s)) ?_
 refine zwu (run_nei (k := .i64) (a := s.size) (b := 32) false (decide_eq_false (fun h => h hs))) ?_
 refine znt ?_
 refine zcf ?_
 refine wp_skip ?_
 refine then_at rfl ?_
 refine zsr ?_
 refine zwv (.string s) ?_
 refine wl_calln (mk := fun q => .func (.func 38) #[] #[.pointer (some ⟨q, 0, none⟩)]) (t := 9) (c := #[.string (hS s)]) H0 (by kernel_rfl) ent12 #[.string s] (by kernel_rfl) (partsOf_any s hs w (VV.below H0.old VV.big)) ?_
 intro q1 w2 h3
 refine zwv (.func (.func 38) #[] #[.pointer (some ⟨q1, 0, none⟩)]) ?_
 refine znt ?_
 refine zsr ?_
 refine zwv (.func (.func 38) #[] #[.pointer (some ⟨q1, 0, none⟩)]) ?_
 refine wl_callv (v := .string (pfS (hS s))) h3 ent38 (cap := #[.pointer (some ⟨q1, 0, none⟩)]) #[iN .i64 1, .pointer (some ⟨q1, 0, none⟩)] (parts_1 (hS s) (hS_size s) q1 w2 (VV.below h3.old VV.big) (h3.get 0 rfl)) ?_
 intro w4 h5
 refine zwv (.string t) ?_
 refine Hh.wl_mks (n := 2) (m := 2) (c := Hh.psc ([pfS (hS s), t])) h5 9 (run_bs2 (u := pfS (hS s)) (v := t) (by kernel_rfl) (by kernel_rfl)) ?_
 intro q6 w7 h8
 refine zwc (v := .string (rrS s t)) (args := #[.slice (some ⟨q6, 0, none⟩) 2 2]) h8 ent15 (number_2 (pfS (hS s)) t (by rw [pfS_size _ (hS_size s)]; decide) ht q6 w7 (VV.below h8.old VV.big) (h8.get 0 rfl)) ?_
 intro w9 h10
 refine zwv (.string (rrS s t)) ?_
 refine znt ?_
 refine zsr ?_
 refine zwc h10 ent16 (base_pv w9 (VV.below h10.old VV.big)) ?_
 intro w11 h12
 refine zwv (.string (rrS s t)) ?_
 refine zwc (v := ptv (mP bP (numS (rrS s t)))) (args := #[ptv bP, .string (rrS s t)]) h12 ent17 (mul_pv bP (rrS s t) (kS_size _) w11 (VV.below h12.old VV.big)) ?_
 intro w13 h14
 refine zwc h14 ent18 (bytes_pv (mP bP (numS (rrS s t))) w13 (VV.below h14.old VV.big)) ?_
 intro w15 h16
 refine zwv (.string (RbS s t)) ?_
 refine znt ?_
 refine zsr ?_
 refine zwv (.string (RbS s t)) ?_
 refine zwv (.func (.func 38) #[] #[.pointer (some ⟨q1, 0, none⟩)]) ?_
 refine wl_callv (v := .string (pkS (hS s))) h16 ent38 (cap := #[.pointer (some ⟨q1, 0, none⟩)]) #[iN .i64 2, .pointer (some ⟨q1, 0, none⟩)] (parts_2 (hS s) (hS_size s) q1 w15 (VV.below h16.old VV.big) (h16.get 1 rfl)) ?_
 intro w17 h18
 refine zwv (.string t) ?_
 refine Hh.wl_mks (n := 3) (m := 3) (c := Hh.psc ([RbS s t, pkS (hS s), t])) h18 9 (run_bs3 (u := RbS s t) (v := pkS (hS s)) (v2 := t)) ?_
 intro q19 w20 h21
 refine zwc h21 ent15 (number_3 (RbS s t) (pkS (hS s)) t (by rw [RbS_size]; decide) (by rw [show (pkS (hS s)).size = 32 from encP_size _]; decide) ht q19 w20 (VV.below h21.old VV.big) (h21.get 0 rfl)) ?_
 intro w22 h23
 refine zwv (.string (kkS s t)) ?_
 refine znt ?_
 refine zsr ?_
 refine zwv (.string (RbS s t)) ?_
 refine zwv (.string (rrS s t)) ?_
 refine zwv (.string (kkS s t)) ?_
 refine zwv (.func (.func 38) #[] #[.pointer (some ⟨q1, 0, none⟩)]) ?_
 refine wl_callv (v := .string (skS (hS s))) h23 ent38 (cap := #[.pointer (some ⟨q1, 0, none⟩)]) #[iN .i64 0, .pointer (some ⟨q1, 0, none⟩)] (parts_0 (hS s) (hS_size s) q1 w22 (VV.below h23.old VV.big) (h23.get 2 rfl)) ?_
 intro w24 h25
 refine zwc h25 ent20 (Sc.Mul_any (kkS s t) (skS (hS s)) w24 (VV.below h25.old VV.big).s) ?_
 intro w26 h27
 refine zwc h27 ent19 (Sc.Add_any (rrS s t) (Sc.mS (kkS s t) (skS (hS s))) w26 (VV.below h27.old VV.big).s) ?_
 intro w28 h29
 refine zwu (run_cat (s := RbS s t) (t := SsS s t) (by rw [RbS_size, SsS_size]; decide)) ?_
 refine zwv (.string (RbS s t ++ SsS s t)) ?_
 refine zwv (iN .i64 0) ?_
 refine znt ?_
 exact wp_ret (zb h29.old)
theorem of_at (p : Pt) (s : ByteArray) (h : encP p = s) (w : World) (VV : VA w) : Calls Tryz.prog 28 #[.string s] w fun e w' => e = .returned (.tuple #[ptv p, .bool true]) ∧ Below w.heap.size w w' := by
 subst h
 exact of_pv p w VV
theorem ver_len (p t g : ByteArray) (hp : p.size ≤ 562949953421312) (ht : t.size ≤ 562949953421312) (hg : g.size ≠ 64) (w : World) (VV : VA w) :
  Calls Tryz.prog 10 #[.string p, .string t, .string g] w fun e w' => e = .returned (.bool false) ∧ Below w.heap.size w w' := by
 have H0 := HA.start w
 go_enter Tryz.func10, Tryz.ntmps10
 refine zsr ?_
 refine zwv (.bool false) ?_
 refine znt ?_
 refine wp_seq ?_
 refine zsr ?_
 refine zwv (.string g) ?_
 refine zwu (run_len (s := g)) ?_
 refine zwu (run_nei (k := .i64) (a := g.size) (b := 64) true (decide_eq_true hg)) ?_
 refine zwv (.bool true) ?_
 refine wl_skip ?_
 refine wl_skip ?_
 refine wl_skip ?_
 refine wl_skip ?_
 refine zwv (.bool true) ?_
 refine znt ?_
 refine zct ?_
 refine zsr ?_
 refine zwv (.bool false) ?_
 refine znt ?_
 refine wp_ret ?_
 repeat first | refine then_ret ?_ | refine block_ret ?_
 exact bodyPost_ret (by kernel_rfl) rfl ⟨rfl, H0.old⟩
theorem ver_chk (p t g : ByteArray) (hp : p.size ≤ 562949953421312) (ht : t.size ≤ 562949953421312) (hg : g.size = 64) (hI : ¬ Sc.isS (g.extract 32 g.size)) (w : World) (VV : VA w) :
  Calls Tryz.prog 10 #[.string p, .string t, .string g] w fun e w' => e = .returned (.bool false) ∧ Below w.heap.size w w' := by
 have H0 := HA.start w
 go_enter Tryz.func10, Tryz.ntmps10
 refine zsr ?_
 refine zwv (.bool false) ?_
 refine znt ?_
 refine wp_seq ?_
 refine zsr ?_
 refine zwv (.string g) ?_
 refine zwu (run_len (s := g)) ?_
 refine zwu (run_nei (k := .i64) (a := g.size) (b := 64) false (decide_eq_false (fun h => h hg))) ?_
 refine zwv (.bool false) ?_
 refine zwv (.string g) ?_
 refine zwu (Sc.run_cut_lo (s := g) (a := 32) (by rw [hg]; decide)) ?_
 refine zwc H0 ent27 (Sc.Check_no (g.extract 32 g.size) hI w (VV.below H0.old VV.big).s) ?_
 intro w1 h2
 refine zwv (.bool true) ?_
 refine zwv (.bool true) ?_
 refine znt ?_
 refine zct ?_
 refine zsr ?_
 refine zwv (.bool false) ?_
 refine znt ?_
 exact wp_ret (zb h2.old)
theorem ver_R (p t g : ByteArray) (hp : p.size ≤ 562949953421312) (ht : t.size ≤ 562949953421312) (hg : g.size = 64) (hI : Sc.isS (g.extract 32 g.size)) (hR : ∀ p, encP p ≠ g.extract 0 32) (w : World) (VV : VA w) :
  Calls Tryz.prog 10 #[.string p, .string t, .string g] w fun e w' => e = .returned (.bool false) ∧ Below w.heap.size w w' := by
 have H0 := HA.start w
 go_enter Tryz.func10, Tryz.ntmps10
 refine zsr ?_
 refine zwv (.bool false) ?_
 refine znt ?_
 refine wp_seq ?_
 refine zsr ?_
 refine zwv (.string g) ?_
 refine zwu (run_len (s := g)) ?_
 refine zwu (run_nei (k := .i64) (a := g.size) (b := 64) false (decide_eq_false (fun h => h hg))) ?_
 refine zwv (.bool false) ?_
 refine zwv (.string g) ?_
 refine zwu (Sc.run_cut_lo (s := g) (a := 32) (by rw [hg]; decide)) ?_
 refine zwc H0 ent27 (Sc.Check_yes (g.extract 32 g.size) hI w (VV.below H0.old VV.big).s) ?_
 intro w1 h2
 refine zwv (.bool false) ?_
 refine zwv (.bool false) ?_
 refine znt ?_
 refine zcf ?_
 refine wp_skip ?_
 refine then_at rfl ?_
 refine zsr ?_
 refine zwv (.string g) ?_
 refine zwu (Sc.run_cut_hi (s := g) (b := 32) (by rw [hg]; decide)) ?_
 refine zwc h2 ent28 (of_pv_no (g.extract 0 32) hR w1 (VV.below h2.old VV.big)) ?_
 intro w3 h4
 refine zwv (.tuple #[.agg (pr 0 0), .bool false]) ?_
 refine zwv (.agg (pr 0 0)) ?_
 refine zwv (.bool false) ?_
 refine wl_make h4 39 run_alloc27 ?_
 intro q5 w6 h7
 refine wl_fill (c' := pr 0 0) h7 0 rfl rfl (info27p 0 0) (one_pr 0 0) ?_
 intro w8 (h9 : HA w [(q5, 39, pr 0 0)] w8)
 refine zwv (.bool false) ?_
 refine znt ?_
 refine wp_seq ?_
 refine zsr ?_
 refine zwv (.bool false) ?_
 refine zwv (.bool true) ?_
 refine znt ?_
 refine zct ?_
 refine zsr ?_
 refine zwv (.bool false) ?_
 refine znt ?_
 exact wp_ret (zb h9.old)
theorem ver_A (p t g : ByteArray) (hp : p.size ≤ 562949953421312) (ht : t.size ≤ 562949953421312) (hg : g.size = 64) (hI : Sc.isS (g.extract 32 g.size)) (R : Pt) (hR : encP R = g.extract 0 32) (hA : ∀ q, encP q ≠ p) (w : World) (VV : VA w) :
  Calls Tryz.prog 10 #[.string p, .string t, .string g] w fun e w' => e = .returned (.bool false) ∧ Below w.heap.size w w' := by
 have H0 := HA.start w
 go_enter Tryz.func10, Tryz.ntmps10
 refine zsr ?_
 refine zwv (.bool false) ?_
 refine znt ?_
 refine wp_seq ?_
 refine zsr ?_
 refine zwv (.string g) ?_
 refine zwu (run_len (s := g)) ?_
 refine zwu (run_nei (k := .i64) (a := g.size) (b := 64) false (decide_eq_false (fun h => h hg))) ?_
 refine zwv (.bool false) ?_
 refine zwv (.string g) ?_
 refine zwu (Sc.run_cut_lo (s := g) (a := 32) (by rw [hg]; decide)) ?_
 refine zwc H0 ent27 (Sc.Check_yes (g.extract 32 g.size) hI w (VV.below H0.old VV.big).s) ?_
 intro w1 h2
 refine zwv (.bool false) ?_
 refine zwv (.bool false) ?_
 refine znt ?_
 refine zcf ?_
 refine wp_skip ?_
 refine then_at rfl ?_
 refine zsr ?_
 refine zwv (.string g) ?_
 refine zwu (Sc.run_cut_hi (s := g) (b := 32) (by rw [hg]; decide)) ?_
 refine zwc h2 ent28 (of_at R (g.extract 0 32) hR w1 (VV.below h2.old VV.big)) ?_
 intro w3 h4
 refine zwv (.tuple #[ptv R, .bool true]) ?_
 refine zwv (ptv R) ?_
 refine zwv (.bool true) ?_
 refine wl_make h4 39 run_alloc27 ?_
 intro q5 w6 h7
 refine wl_fill (c' := ptc R) h7 0 rfl (ptc_sz R) (ptc_info R) (ptc_one R) ?_
 intro w8 (h9 : HA w [(q5, 39, ptc R)] w8)
 refine zwv (.bool true) ?_
 refine znt ?_
 refine wp_seq ?_
 refine zsr ?_
 refine zwv (.bool true) ?_
 refine zwv (.bool false) ?_
 refine znt ?_
 refine zcf ?_
 refine wp_skip ?_
 refine then_at rfl ?_
 refine zsr ?_
 refine zwv (.string p) ?_
 refine zwc h9 ent28 (of_pv_no p hA w8 (VV.below h9.old VV.big)) ?_
 intro w10 h11
 refine zwv (.tuple #[.agg (pr 0 0), .bool false]) ?_
 refine zwv (.agg (pr 0 0)) ?_
 refine zwv (.bool false) ?_
 refine wl_make h11 39 run_alloc27 ?_
 intro q12 w13 h14
 refine wl_fill (c' := pr 0 0) h14 0 rfl rfl (info27p 0 0) (one_pr 0 0) ?_
 intro w15 (h16 : HA w [(q12, 39, pr 0 0), (q5, 39, ptc R)] w15)
 refine zwv (.bool false) ?_
 refine znt ?_
 refine wp_seq ?_
 refine zsr ?_
 refine zwv (.bool false) ?_
 refine zwv (.bool true) ?_
 refine znt ?_
 refine zct ?_
 refine zsr ?_
 refine zwv (.bool false) ?_
 refine znt ?_
 exact wp_ret (zb h16.old)
theorem ver_no (p t g : ByteArray) (hp : p.size ≤ 562949953421312) (ht : t.size ≤ 562949953421312) (hg : g.size = 64) (hI : Sc.isS (g.extract 32 g.size)) (R : Pt) (hR : encP R = g.extract 0 32) (A : Pt) (hA : encP A = p) (hE : mP bP (numS (g.extract 32 g.size)) ≠ aP R (mP A (numS (kvS p t (g.extract 0 32))))) (w : World) (VV : VA w) :
  Calls Tryz.prog 10 #[.string p, .string t, .string g] w fun e w' => e = .returned (.bool false) ∧ Below w.heap.size w w' := by
 have H0 := HA.start w
 go_enter Tryz.func10, Tryz.ntmps10
 refine zsr ?_
 refine zwv (.bool false) ?_
 refine znt ?_
 refine wp_seq ?_
 refine zsr ?_
 refine zwv (.string g) ?_
 refine zwu (run_len (s := g)) ?_
 refine zwu (run_nei (k := .i64) (a := g.size) (b := 64) false (decide_eq_false (fun h => h hg))) ?_
 refine zwv (.bool false) ?_
 refine zwv (.string g) ?_
 refine zwu (Sc.run_cut_lo (s := g) (a := 32) (by rw [hg]; decide)) ?_
 refine zwc H0 ent27 (Sc.Check_yes (g.extract 32 g.size) hI w (VV.below H0.old VV.big).s) ?_
 intro w1 h2
 refine zwv (.bool false) ?_
 refine zwv (.bool false) ?_
 refine znt ?_
 refine zcf ?_
 refine wp_skip ?_
 refine then_at rfl ?_
 refine zsr ?_
 refine zwv (.string g) ?_
 refine zwu (Sc.run_cut_hi (s := g) (b := 32) (by rw [hg]; decide)) ?_
 refine zwc h2 ent28 (of_at R (g.extract 0 32) hR w1 (VV.below h2.old VV.big)) ?_
 intro w3 h4
 refine zwv (.tuple #[ptv R, .bool true]) ?_
 refine zwv (ptv R) ?_
 refine zwv (.bool true) ?_
 refine wl_make h4 39 run_alloc27 ?_
 intro q5 w6 h7
 refine wl_fill (c' := ptc R) h7 0 rfl (ptc_sz R) (ptc_info R) (ptc_one R) ?_
 intro w8 (h9 : HA w [(q5, 39, ptc R)] w8)
 refine zwv (.bool true) ?_
 refine znt ?_
 refine wp_seq ?_
 refine zsr ?_
 refine zwv (.bool true) ?_
 refine zwv (.bool false) ?_
 refine znt ?_
 refine zcf ?_
 refine wp_skip ?_
 refine then_at rfl ?_
 refine zsr ?_
 refine zwv (.string p) ?_
 refine zwc h9 ent28 (of_at A p hA w8 (VV.below h9.old VV.big)) ?_
 intro w10 h11
 refine zwv (.tuple #[ptv A, .bool true]) ?_
 refine zwv (ptv A) ?_
 refine zwv (.bool true) ?_
 refine wl_make h11 39 run_alloc27 ?_
 intro q12 w13 h14
 refine wl_fill (c' := ptc A) h14 0 rfl (ptc_sz A) (ptc_info A) (ptc_one A) ?_
 intro w15 (h16 : HA w [(q12, 39, ptc A), (q5, 39, ptc R)] w15)
 refine zwv (.bool true) ?_
 refine znt ?_
 refine wp_seq ?_
 refine zsr ?_
 refine zwv (.bool true) ?_
 refine zwv (.bool false) ?_
 refine znt ?_
 refine zcf ?_
 refine wp_skip ?_
 refine then_at rfl ?_
 refine zsr ?_
 refine zwv (.string g) ?_
 refine zwu (Sc.run_cut_hi (s := g) (b := 32) (by rw [hg]; decide)) ?_
 refine zwv (.string p) ?_
 refine zwv (.string t) ?_
 refine Hh.wl_mks (n := 3) (m := 3) (c := Hh.psc ([g.extract 0 32, p, t])) h16 9 (run_bs3 (u := g.extract 0 32) (v := p) (v2 := t)) ?_
 intro q17 w18 h19
 refine zwc h19 ent15 (number_3 (g.extract 0 32) p t (by rw [ext_size g 0 32 (by rw [hg]; decide)]; decide) hp ht q17 w18 (VV.below h19.old VV.big) (h19.get 0 rfl)) ?_
 intro w20 h21
 refine zwv (.string (kvS p t (g.extract 0 32))) ?_
 refine znt ?_
 refine wp_seq ?_
 refine zrs ⟨(.string p :: .string t :: .string g :: un :: un :: un :: .bool false :: pt q5 :: .bool true :: pt q12 :: .string (kvS p t (g.extract 0 32)) :: .string g :: iN .i64 g.size :: .bool false :: .bool false :: .string g :: .string (g.extract 32 g.size) :: .bool true :: .bool false :: .bool false :: .tuple #[ptv R, .bool true] :: .string g :: .string (g.extract 0 32) :: .tuple #[ptv R, .bool true] :: ptv R :: .bool true :: .bool true :: .bool false :: .tuple #[ptv A, .bool true] :: .string p :: .tuple #[ptv A, .bool true] :: ptv A :: .bool true :: .bool true :: .bool false :: .string g :: .string (g.extract 0 32) :: .string p :: .string t :: .slice (some ⟨q17, 0, none⟩) 3 3 :: .string (kvS p t (g.extract 0 32)) :: ptv bP :: .string g :: .string (g.extract 32 g.size) :: ptv (mP bP (numS (g.extract 32 g.size))) :: ptv R :: ptv A :: .string (kvS p t (g.extract 0 32)) :: ptv (mP A (numS (kvS p t (g.extract 0 32)))) :: ptv (aP R (mP A (numS (kvS p t (g.extract 0 32))))) :: .bool false :: List.replicate 0 un).toArray, []⟩ (HA w [(q17, 9, Hh.psc ([g.extract 0 32, p, t])), (q12, 39, ptc A), (q5, 39, ptc R)]) h21.drew ?_ ?_
 ·refine zsc ent16 HA.keep (fun w' h' => base_pv w' (VV.below h'.old VV.big)) ?_
  refine zsp (.string g) ?_
  refine zst (fun _ _ => (Sc.run_cut_lo (s := g) (a := 32) (by rw [hg]; decide))) ?_
  refine zsc ent17 HA.keep (fun w' h' => mul_pv bP (g.extract 32 g.size) hI.1 w' (VV.below h'.old VV.big)) ?_
  refine zst (v := ptv R) (fun _ h => run_load_blk (h.get 2 rfl) Tryz.underlying39 rfl (ptc_info R)) ?_
  refine zst (v := ptv A) (fun _ h => run_load_blk (h.get 1 rfl) Tryz.underlying39 rfl (ptc_info A)) ?_
  refine zsp (.string (kvS p t (g.extract 0 32))) ?_
  refine zsc (v := ptv (mP A (numS (kvS p t (g.extract 0 32))))) (args := #[ptv A, .string (kvS p t (g.extract 0 32))]) ent17 HA.keep (fun w' h' => mul_pv A (kvS p t (g.extract 0 32)) (kS_size _) w' (VV.below h'.old VV.big)) ?_
  refine zsc ent30 HA.keep (fun w' h' => add_pv R (mP A (numS (kvS p t (g.extract 0 32)))) w' (VV.below h'.old VV.big)) ?_
  refine zsc ent29 HA.keep (fun w' h' => same_pv_no (mP bP (numS (g.extract 32 g.size))) (aP R (mP A (numS (kvS p t (g.extract 0 32))))) hE w') ?_
  refine zsp (.bool false) ?_
  exact AllSure.nil
 intro w22 h23
 refine then_at rfl ?_
 exact wp_ret (zb h23.old)
theorem ver_yes (p t g : ByteArray) (hp : p.size ≤ 562949953421312) (ht : t.size ≤ 562949953421312) (hg : g.size = 64) (hI : Sc.isS (g.extract 32 g.size)) (R : Pt) (hR : encP R = g.extract 0 32) (A : Pt) (hA : encP A = p) (hE : mP bP (numS (g.extract 32 g.size)) = aP R (mP A (numS (kvS p t (g.extract 0 32))))) (w : World) (VV : VA w) :
  Calls Tryz.prog 10 #[.string p, .string t, .string g] w fun e w' => e = .returned (.bool true) ∧ Below w.heap.size w w' := by
 have H0 := HA.start w
 go_enter Tryz.func10, Tryz.ntmps10
 refine zsr ?_
 refine zwv (.bool false) ?_
 refine znt ?_
 refine wp_seq ?_
 refine zsr ?_
 refine zwv (.string g) ?_
 refine zwu (run_len (s := g)) ?_
 refine zwu (run_nei (k := .i64) (a := g.size) (b := 64) false (decide_eq_false (fun h => h hg))) ?_
 refine zwv (.bool false) ?_
 refine zwv (.string g) ?_
 refine zwu (Sc.run_cut_lo (s := g) (a := 32) (by rw [hg]; decide)) ?_
 refine zwc H0 ent27 (Sc.Check_yes (g.extract 32 g.size) hI w (VV.below H0.old VV.big).s) ?_
 intro w1 h2
 refine zwv (.bool false) ?_
 refine zwv (.bool false) ?_
 refine znt ?_
 refine zcf ?_
 refine wp_skip ?_
 refine then_at rfl ?_
 refine zsr ?_
 refine zwv (.string g) ?_
 refine zwu (Sc.run_cut_hi (s := g) (b := 32) (by rw [hg]; decide)) ?_
 refine zwc h2 ent28 (of_at R (g.extract 0 32) hR w1 (VV.below h2.old VV.big)) ?_
 intro w3 h4
 refine zwv (.tuple #[ptv R, .bool true]) ?_
 refine zwv (ptv R) ?_
 refine zwv (.bool true) ?_
 refine wl_make h4 39 run_alloc27 ?_
 intro q5 w6 h7
 refine wl_fill (c' := ptc R) h7 0 rfl (ptc_sz R) (ptc_info R) (ptc_one R) ?_
 intro w8 (h9 : HA w [(q5, 39, ptc R)] w8)
 refine zwv (.bool true) ?_
 refine znt ?_
 refine wp_seq ?_
 refine zsr ?_
 refine zwv (.bool true) ?_
 refine zwv (.bool false) ?_
 refine znt ?_
 refine zcf ?_
 refine wp_skip ?_
 refine then_at rfl ?_
 refine zsr ?_
 refine zwv (.string p) ?_
 refine zwc h9 ent28 (of_at A p hA w8 (VV.below h9.old VV.big)) ?_
 intro w10 h11
 refine zwv (.tuple #[ptv A, .bool true]) ?_
 refine zwv (ptv A) ?_
 refine zwv (.bool true) ?_
 refine wl_make h11 39 run_alloc27 ?_
 intro q12 w13 h14
 refine wl_fill (c' := ptc A) h14 0 rfl (ptc_sz A) (ptc_info A) (ptc_one A) ?_
 intro w15 (h16 : HA w [(q12, 39, ptc A), (q5, 39, ptc R)] w15)
 refine zwv (.bool true) ?_
 refine znt ?_
 refine wp_seq ?_
 refine zsr ?_
 refine zwv (.bool true) ?_
 refine zwv (.bool false) ?_
 refine znt ?_
 refine zcf ?_
 refine wp_skip ?_
 refine then_at rfl ?_
 refine zsr ?_
 refine zwv (.string g) ?_
 refine zwu (Sc.run_cut_hi (s := g) (b := 32) (by rw [hg]; decide)) ?_
 refine zwv (.string p) ?_
 refine zwv (.string t) ?_
 refine Hh.wl_mks (n := 3) (m := 3) (c := Hh.psc ([g.extract 0 32, p, t])) h16 9 (run_bs3 (u := g.extract 0 32) (v := p) (v2 := t)) ?_
 intro q17 w18 h19
 refine zwc h19 ent15 (number_3 (g.extract 0 32) p t (by rw [ext_size g 0 32 (by rw [hg]; decide)]; decide) hp ht q17 w18 (VV.below h19.old VV.big) (h19.get 0 rfl)) ?_
 intro w20 h21
 refine zwv (.string (kvS p t (g.extract 0 32))) ?_
 refine znt ?_
 refine wp_seq ?_
 refine zrs ⟨(.string p :: .string t :: .string g :: un :: un :: un :: .bool true :: pt q5 :: .bool true :: pt q12 :: .string (kvS p t (g.extract 0 32)) :: .string g :: iN .i64 g.size :: .bool false :: .bool false :: .string g :: .string (g.extract 32 g.size) :: .bool true :: .bool false :: .bool false :: .tuple #[ptv R, .bool true] :: .string g :: .string (g.extract 0 32) :: .tuple #[ptv R, .bool true] :: ptv R :: .bool true :: .bool true :: .bool false :: .tuple #[ptv A, .bool true] :: .string p :: .tuple #[ptv A, .bool true] :: ptv A :: .bool true :: .bool true :: .bool false :: .string g :: .string (g.extract 0 32) :: .string p :: .string t :: .slice (some ⟨q17, 0, none⟩) 3 3 :: .string (kvS p t (g.extract 0 32)) :: ptv bP :: .string g :: .string (g.extract 32 g.size) :: ptv (mP bP (numS (g.extract 32 g.size))) :: ptv R :: ptv A :: .string (kvS p t (g.extract 0 32)) :: ptv (mP A (numS (kvS p t (g.extract 0 32)))) :: ptv (aP R (mP A (numS (kvS p t (g.extract 0 32))))) :: .bool true :: List.replicate 0 un).toArray, []⟩ (HA w [(q17, 9, Hh.psc ([g.extract 0 32, p, t])), (q12, 39, ptc A), (q5, 39, ptc R)]) h21.drew ?_ ?_
 ·refine zsc ent16 HA.keep (fun w' h' => base_pv w' (VV.below h'.old VV.big)) ?_
  refine zsp (.string g) ?_
  refine zst (fun _ _ => (Sc.run_cut_lo (s := g) (a := 32) (by rw [hg]; decide))) ?_
  refine zsc ent17 HA.keep (fun w' h' => mul_pv bP (g.extract 32 g.size) hI.1 w' (VV.below h'.old VV.big)) ?_
  refine zst (v := ptv R) (fun _ h => run_load_blk (h.get 2 rfl) Tryz.underlying39 rfl (ptc_info R)) ?_
  refine zst (v := ptv A) (fun _ h => run_load_blk (h.get 1 rfl) Tryz.underlying39 rfl (ptc_info A)) ?_
  refine zsp (.string (kvS p t (g.extract 0 32))) ?_
  refine zsc (v := ptv (mP A (numS (kvS p t (g.extract 0 32))))) (args := #[ptv A, .string (kvS p t (g.extract 0 32))]) ent17 HA.keep (fun w' h' => mul_pv A (kvS p t (g.extract 0 32)) (kS_size _) w' (VV.below h'.old VV.big)) ?_
  refine zsc ent30 HA.keep (fun w' h' => add_pv R (mP A (numS (kvS p t (g.extract 0 32)))) w' (VV.below h'.old VV.big)) ?_
  refine zsc ent29 HA.keep (fun w' h' => same_pv_yes (mP bP (numS (g.extract 32 g.size))) (aP R (mP A (numS (kvS p t (g.extract 0 32))))) hE w') ?_
  refine zsp (.bool true) ?_
  exact AllSure.nil
 intro w22 h23
 refine then_at rfl ?_
 exact wp_ret (zb h23.old)
theorem Verify_yes (p t g : ByteArray) (hp : p.size ≤ 562949953421312) (ht : t.size ≤ 562949953421312) (h : verP p t g) (w : World) (VV : VA w) : Calls Tryz.prog 10 #[.string p, .string t, .string g] w fun e w' => e = .returned (.bool true) ∧ Below w.heap.size w w' := by
 obtain ⟨hg, hI, R, A, hR, hA, hE⟩ := h
 exact ver_yes p t g hp ht hg hI R hR A hA hE w VV
theorem Verify_no (p t g : ByteArray) (hp : p.size ≤ 562949953421312) (ht : t.size ≤ 562949953421312) (h : ¬ verP p t g) (w : World) (VV : VA w) : Calls Tryz.prog 10 #[.string p, .string t, .string g] w fun e w' => e = .returned (.bool false) ∧ Below w.heap.size w w' := by
 by_cases hg : g.size = 64
 ·by_cases hI : Sc.isS (g.extract 32 g.size)
  ·by_cases hR : ∃ R, encP R = g.extract 0 32
   ·obtain ⟨R, hR⟩ := hR
    by_cases hA : ∃ A, encP A = p
    ·obtain ⟨A, hA⟩ := hA
     exact ver_no p t g hp ht hg hI R hR A hA (fun hE => h ⟨hg, hI, R, A, hR, hA, hE⟩) w VV
    ·exact ver_A p t g hp ht hg hI R hR (fun q e => hA ⟨q, e⟩) w VV
   ·exact ver_R p t g hp ht hg hI (fun q e => hR ⟨q, e⟩) w VV
  ·exact ver_chk p t g hp ht hg hI w VV
 ·exact ver_len p t g hp ht hg w VV
end Go.Proofs.YtefjnfeckenmkaaGreatDoor
