/-
 the reference's Public, Sign and Verify.
-/
import Derived.Test.YtefjnfeckenmkaaGreatDoorSg3
import Derived.Test.YtefjnfeckenmkaaGreatDoorV3
import Derived.Test.YtefjnfeckenmkaaGreatDoorS5
import Derived.Test.YtefjnfeckenmkaaGreatDoorRs3
namespace Go.Proofs.YtefjnfeckenmkaaGreatDoor
set_option linter.unusedVariables false
set_option maxRecDepth 100000
set_option maxHeartbeats 2000000
open Go.RowKit Num
theorem rof_enc (p : Pt) : ∀ w, Calls Tryz.prog 32 #[.string (encP p)] w fun e w' => e = .returned (.tuple #[.agg (rq (mdQ p.x.val p.y.val)), .bool true]) ∧ Below w.heap.size w w' := by
 intro w
 have hs := encP_size p
 have hy : p.y.val < P := p.y.isLt
 have hx : p.x.val < P := p.x.isLt
 have y2 := y_255 p
 obtain ⟨r, hr, he, hlt, hor⟩ := root_square p.x.val hx
 rw [← bsq_on] at hr
 have hneg := negP_of p.x.val hx
 have hp := P_odd
 by_cases ho : p.x.val % 2 = 1
 ·have hn := encP_odd p ho
  have hx0 : p.x.val ≠ 0 := by omega
  rw [if_neg hx0] at hneg
  have hrr : r = P - p.x.val := by
   rcases hor with h | h
   ·omega
   ·omega
  have hback : negP r = p.x.val := by
   rw [negP_of r hlt, if_neg (by omega)]
   omega
  have := QOf_yes_odd (encP p) hs p.y.val hy (of_num hs (by rw [hn]; omega) hy) r hlt hr (by rw [hn]; omega) (by omega) w
  rw [hback] at this
  exact this
 ·have hn := encP_even p ho
  have hrr : r = p.x.val := by
   rcases hor with h | h
   ·exact h
   ·rw [hneg] at h
    split at h
    ·omega
    ·omega
  have := QOf_yes_even (encP p) hs p.y.val hy (of_num hs (by rw [hn]; omega) hy) r hlt hr (by rw [hn]; omega) w
  rw [hrr] at this
  exact this
theorem rof_ex2 (s : ByteArray) (hs : s.size = 32) : (∃ p, encP p = s) ∨ (∀ w, Calls Tryz.prog 32 #[.string s] w fun e w' => e = .returned (.tuple #[.agg (rq (mdQ 0 1)), .bool false]) ∧ Below w.heap.size w w') := by
 have hs2 := numS_256 s hs
 cases hof : ofP (topS s) with
 | none =>
  right
  by_cases hb : numS s / 2 ^ 255 % 2 = 1
  ·exact fun w => QOf_no_of1 s hs hof hb w
  ·exact fun w => QOf_no_of0 s hs hof hb w
 | some y =>
  have hy := ofP_lt hof
  have hyn : numS s % 2 ^ 255 = y := by
   unfold ofP at hof
   split at hof
   ·rw [← Option.some.inj hof, top_num' s hs]
   ·cases hof
  cases hroot : rootP (bsq y) with
  | none =>
   right
   by_cases hb : numS s / 2 ^ 255 % 2 = 1
   ·exact fun w => QOf_no_root1 s hs y hy hof hroot hb w
   ·exact fun w => QOf_no_root0 s hs y hy hof hroot hb w
  | some rt =>
   obtain ⟨p, hx, hyy, hp⟩ := of_pt hroot
   obtain ⟨_, hev, _⟩ := root_is hroot
   have hyv : p.y.val = y := by rw [hyy, toF_val, Nat.mod_eq_of_lt hy]
   have hxv := hp.xv
   have hpo := P_odd
   by_cases hb : numS s / 2 ^ 255 % 2 = 1
   ·by_cases hz : rt = 0
    ·exact .inr fun w => QOf_no_zero s hs y hy hof rt hp.ha hroot hb hz w
    ·refine .inl ⟨gP p, ?_⟩
     have hg := hp.neg.xv
     rw [negP_of rt hp.ha, if_neg hz] at hg
     have hlt := hp.ha
     refine num_eq (encP_size _) hs ?_
     rw [encP_odd _ (by omega)]
     show p.y.val + 2 ^ 255 = numS s
     omega
   ·refine .inl ⟨p, ?_⟩
    refine num_eq (encP_size _) hs ?_
    rw [encP_even _ (by omega)]
    omega
theorem rof_at (p : Pt) (s : ByteArray) (h : encP p = s) (w : World) : Calls Tryz.prog 32 #[.string s] w fun e w' => e = .returned (.tuple #[.agg (rq (mdQ p.x.val p.y.val)), .bool true]) ∧ Below w.heap.size w w' := by
 subst h
 exact rof_enc p w
theorem rofN_none (s : ByteArray) (h : ∀ p, encP p ≠ s) (w : World) : Calls Tryz.prog 32 #[.string s] w fun e w' => e = .returned (.tuple #[.agg (rq (mdQ 0 1)), .bool false]) ∧ Below w.heap.size w w' := by
 by_cases hs : s.size = 32
 ·rcases rof_ex2 s hs with ⟨p, e⟩ | h2
  ·exact absurd e (h p)
  ·exact h2 w
 ·exact QOf_size s hs w
theorem rz64 (C : Array Value) (h : C.size = 64) : C.size = (rq (Q4.mk 0 0 0 0)).size := by rw [rq_size]; exact h
theorem inf64 (C : Array Value) (h : C.size = 64) : (Tryz.prog.info? 53).map (·.size) = some C.size := by rw [h]; exact info34
theorem Rp.self (p : Pt) : Rp (mdQ p.x.val p.y.val) p := Rp.made p.x.isLt p.y.isLt (toF_of _) (toF_of _)
theorem bl_app (s t : ByteArray) : Hh.bl (s ++ t) = Hh.bl s ++ Hh.bl t := by
 unfold Hh.bl
 rw [ByteArray.data_append, Array.toList_append]
theorem shr_any (s : ByteArray) (hs : s.size ≤ 2251799813685248) (w : World) : Calls Tryz.prog 42 #[.string s] w fun e w' => e = .returned (.string (sh (Hh.bl s))) ∧ Below w.heap.size w w' := Hh.shaRL s hs w
theorem rnumber_any (s : ByteArray) (hs : s.size ≤ 2251799813685248) (w : World) :
  Calls Tryz.prog 21 #[.string s] w fun e w' => e = .returned (.string (kS (Hh.bl s))) ∧ Below w.heap.size w w' := by
 have H0 := HA.start w
 go_enter Tryz.func21, Tryz.ntmps21
 refine zsr ?_
 refine zwv (.string { data := #[] }) ?_
 refine znt ?_
 refine zsr ?_
 refine zwv (.string s) ?_
 refine zwc H0 ent42 (shr_any s hs w) ?_
 intro w1 h2
 refine zwc h2 ent60 (Sc.rReduce_any (sh (Hh.bl s)) w1) ?_
 intro w3 h4
 refine zwv (.string (kS (Hh.bl s))) ?_
 refine znt ?_
 exact wp_ret (zb h4.old)
theorem rver_len (p t gs : ByteArray) (hp : p.size ≤ 562949953421312) (ht : t.size ≤ 562949953421312) (hg : gs.size ≠ 64) (w : World) :
  Calls Tryz.prog 11 #[.string p, .string t, .string gs] w fun e w' => e = .returned (.bool false) ∧ Below w.heap.size w w' := by
 have H0 := HA.start w
 go_enter Tryz.func11, Tryz.ntmps11
 refine zsr ?_
 refine zwv (.bool false) ?_
 refine znt ?_
 refine wp_seq ?_
 refine zsr ?_
 refine zwv (.string gs) ?_
 refine zwu (run_len (s := gs)) ?_
 refine zwu (run_nei (k := .i64) (a := gs.size) (b := 64) true (decide_eq_true hg)) ?_
 refine zwv (.bool true) ?_
 refine wl_skip ?_
 refine wl_skip ?_
 refine wl_skip ?_
 refine wl_skip ?_
 refine zwv (.bool true) ?_
 refine znt ?_
 refine zct ?_
 refine zsr ?_
 refine zwv (.bool false) ?_
 refine znt ?_
 refine wp_ret ?_
 repeat first | refine then_ret ?_ | refine block_ret ?_
 exact bodyPost_ret (by kernel_rfl) rfl ⟨rfl, H0.old⟩
theorem rver_chk (p t gs : ByteArray) (hp : p.size ≤ 562949953421312) (ht : t.size ≤ 562949953421312) (hg : gs.size = 64) (hI : (∀ w, Calls Tryz.prog 31 #[.string (gs.extract 32 gs.size)] w fun e w' => e = .returned (.bool false) ∧ Below w.heap.size w w')) (w : World) :
  Calls Tryz.prog 11 #[.string p, .string t, .string gs] w fun e w' => e = .returned (.bool false) ∧ Below w.heap.size w w' := by
 have H0 := HA.start w
 go_enter Tryz.func11, Tryz.ntmps11
 refine zsr ?_
 refine zwv (.bool false) ?_
 refine znt ?_
 refine wp_seq ?_
 refine zsr ?_
 refine zwv (.string gs) ?_
 refine zwu (run_len (s := gs)) ?_
 refine zwu (run_nei (k := .i64) (a := gs.size) (b := 64) false (decide_eq_false (fun h => h hg))) ?_
 refine zwv (.bool false) ?_
 refine zwv (.string gs) ?_
 refine zwu (Sc.run_cut_lo (s := gs) (a := 32) (by rw [hg]; decide)) ?_
 refine zwc H0 ent31 (hI w) ?_
 intro w1 h2
 refine zwv (.bool true) ?_
 refine zwv (.bool true) ?_
 refine znt ?_
 refine zct ?_
 refine zsr ?_
 refine zwv (.bool false) ?_
 refine znt ?_
 exact wp_ret (zb h2.old)
theorem rver_RA (p t gs : ByteArray) (hp : p.size ≤ 562949953421312) (ht : t.size ≤ 562949953421312) (hg : gs.size = 64) (hI : (∀ w, Calls Tryz.prog 31 #[.string (gs.extract 32 gs.size)] w fun e w' => e = .returned (.bool true) ∧ Below w.heap.size w w')) (hR : (∀ w, Calls Tryz.prog 32 #[.string (gs.extract 0 32)] w fun e w' => e = .returned (.tuple #[.agg (rq (mdQ 0 1)), .bool false]) ∧ Below w.heap.size w w')) (qp : Q4) (hA : (∀ w, Calls Tryz.prog 32 #[.string p] w fun e w' => e = .returned (.tuple #[.agg (rq qp), .bool true]) ∧ Below w.heap.size w w')) (w : World) :
  Calls Tryz.prog 11 #[.string p, .string t, .string gs] w fun e w' => e = .returned (.bool false) ∧ Below w.heap.size w w' := by
 have H0 := HA.start w
 go_enter Tryz.func11, Tryz.ntmps11
 refine zsr ?_
 refine zwv (.bool false) ?_
 refine znt ?_
 refine wp_seq ?_
 refine zsr ?_
 refine zwv (.string gs) ?_
 refine zwu (run_len (s := gs)) ?_
 refine zwu (run_nei (k := .i64) (a := gs.size) (b := 64) false (decide_eq_false (fun h => h hg))) ?_
 refine zwv (.bool false) ?_
 refine zwv (.string gs) ?_
 refine zwu (Sc.run_cut_lo (s := gs) (a := 32) (by rw [hg]; decide)) ?_
 refine zwc H0 ent31 (hI w) ?_
 intro w1 h2
 refine zwv (.bool false) ?_
 refine zwv (.bool false) ?_
 refine znt ?_
 refine zcf ?_
 refine wp_skip ?_
 refine then_at rfl ?_
 refine zsr ?_
 refine zwv (.string gs) ?_
 refine zwu (Sc.run_cut_hi (s := gs) (b := 32) (by rw [hg]; decide)) ?_
 refine zwc h2 ent32 (hR w1) ?_
 intro w3 h4
 refine zwv (.tuple #[.agg (rq (mdQ 0 1)), .bool false]) ?_
 refine zwv (.agg (rq (mdQ 0 1))) ?_
 refine zwv (.bool false) ?_
 refine wl_make h4 53 run_alloc34 ?_
 intro q5 w6 h7
 refine wl_fill (c' := rq (mdQ 0 1)) h7 0 rfl (rq_sz (mdQ 0 1) (Q4.mk 0 0 0 0)) (info34q (mdQ 0 1)) (one_rq (mdQ 0 1)) ?_
 intro w8 (h9 : HA w [(q5, 53, rq (mdQ 0 1))] w8)
 refine zwv (.bool false) ?_
 refine znt ?_
 refine zsr ?_
 refine zwv (.string p) ?_
 refine zwc h9 ent32 (hA w8) ?_
 intro w10 h11
 refine zwv (.tuple #[.agg (rq qp), .bool true]) ?_
 refine zwv (.agg (rq qp)) ?_
 refine zwv (.bool true) ?_
 refine wl_make h11 53 run_alloc34 ?_
 intro q12 w13 h14
 refine wl_fill (c' := rq qp) h14 0 rfl (rq_sz qp (Q4.mk 0 0 0 0)) (info34q qp) (one_rq qp) ?_
 intro w15 (h16 : HA w [(q12, 53, rq qp), (q5, 53, rq (mdQ 0 1))] w15)
 refine zwv (.bool true) ?_
 refine znt ?_
 refine wp_seq ?_
 refine zsr ?_
 refine zwv (.bool false) ?_
 refine zwv (.bool true) ?_
 refine zwv (.bool true) ?_
 refine wl_skip ?_
 refine wl_skip ?_
 refine zwv (.bool true) ?_
 refine znt ?_
 refine zct ?_
 refine zsr ?_
 refine zwv (.bool false) ?_
 refine znt ?_
 exact wp_ret (zb h16.old)
theorem rver_RN (p t gs : ByteArray) (hp : p.size ≤ 562949953421312) (ht : t.size ≤ 562949953421312) (hg : gs.size = 64) (hI : (∀ w, Calls Tryz.prog 31 #[.string (gs.extract 32 gs.size)] w fun e w' => e = .returned (.bool true) ∧ Below w.heap.size w w')) (hR : (∀ w, Calls Tryz.prog 32 #[.string (gs.extract 0 32)] w fun e w' => e = .returned (.tuple #[.agg (rq (mdQ 0 1)), .bool false]) ∧ Below w.heap.size w w')) (hA : (∀ w, Calls Tryz.prog 32 #[.string p] w fun e w' => e = .returned (.tuple #[.agg (rq (mdQ 0 1)), .bool false]) ∧ Below w.heap.size w w')) (w : World) :
  Calls Tryz.prog 11 #[.string p, .string t, .string gs] w fun e w' => e = .returned (.bool false) ∧ Below w.heap.size w w' := by
 have H0 := HA.start w
 go_enter Tryz.func11, Tryz.ntmps11
 refine zsr ?_
 refine zwv (.bool false) ?_
 refine znt ?_
 refine wp_seq ?_
 refine zsr ?_
 refine zwv (.string gs) ?_
 refine zwu (run_len (s := gs)) ?_
 refine zwu (run_nei (k := .i64) (a := gs.size) (b := 64) false (decide_eq_false (fun h => h hg))) ?_
 refine zwv (.bool false) ?_
 refine zwv (.string gs) ?_
 refine zwu (Sc.run_cut_lo (s := gs) (a := 32) (by rw [hg]; decide)) ?_
 refine zwc H0 ent31 (hI w) ?_
 intro w1 h2
 refine zwv (.bool false) ?_
 refine zwv (.bool false) ?_
 refine znt ?_
 refine zcf ?_
 refine wp_skip ?_
 refine then_at rfl ?_
 refine zsr ?_
 refine zwv (.string gs) ?_
 refine zwu (Sc.run_cut_hi (s := gs) (b := 32) (by rw [hg]; decide)) ?_
 refine zwc h2 ent32 (hR w1) ?_
 intro w3 h4
 refine zwv (.tuple #[.agg (rq (mdQ 0 1)), .bool false]) ?_
 refine zwv (.agg (rq (mdQ 0 1))) ?_
 refine zwv (.bool false) ?_
 refine wl_make h4 53 run_alloc34 ?_
 intro q5 w6 h7
 refine wl_fill (c' := rq (mdQ 0 1)) h7 0 rfl (rq_sz (mdQ 0 1) (Q4.mk 0 0 0 0)) (info34q (mdQ 0 1)) (one_rq (mdQ 0 1)) ?_
 intro w8 (h9 : HA w [(q5, 53, rq (mdQ 0 1))] w8)
 refine zwv (.bool false) ?_
 refine znt ?_
 refine zsr ?_
 refine zwv (.string p) ?_
 refine zwc h9 ent32 (hA w8) ?_
 intro w10 h11
 refine zwv (.tuple #[.agg (rq (mdQ 0 1)), .bool false]) ?_
 refine zwv (.agg (rq (mdQ 0 1))) ?_
 refine zwv (.bool false) ?_
 refine wl_make h11 53 run_alloc34 ?_
 intro q12 w13 h14
 refine wl_fill (c' := rq (mdQ 0 1)) h14 0 rfl (rq_sz (mdQ 0 1) (Q4.mk 0 0 0 0)) (info34q (mdQ 0 1)) (one_rq (mdQ 0 1)) ?_
 intro w15 (h16 : HA w [(q12, 53, rq (mdQ 0 1)), (q5, 53, rq (mdQ 0 1))] w15)
 refine zwv (.bool false) ?_
 refine znt ?_
 refine wp_seq ?_
 refine zsr ?_
 refine zwv (.bool false) ?_
 refine zwv (.bool true) ?_
 refine zwv (.bool true) ?_
 refine wl_skip ?_
 refine wl_skip ?_
 refine zwv (.bool true) ?_
 refine znt ?_
 refine zct ?_
 refine zsr ?_
 refine zwv (.bool false) ?_
 refine znt ?_
 exact wp_ret (zb h16.old)
theorem rver_A (p t gs : ByteArray) (hp : p.size ≤ 562949953421312) (ht : t.size ≤ 562949953421312) (hg : gs.size = 64) (hI : (∀ w, Calls Tryz.prog 31 #[.string (gs.extract 32 gs.size)] w fun e w' => e = .returned (.bool true) ∧ Below w.heap.size w w')) (qr : Q4) (hR : (∀ w, Calls Tryz.prog 32 #[.string (gs.extract 0 32)] w fun e w' => e = .returned (.tuple #[.agg (rq qr), .bool true]) ∧ Below w.heap.size w w')) (hA : (∀ w, Calls Tryz.prog 32 #[.string p] w fun e w' => e = .returned (.tuple #[.agg (rq (mdQ 0 1)), .bool false]) ∧ Below w.heap.size w w')) (w : World) :
  Calls Tryz.prog 11 #[.string p, .string t, .string gs] w fun e w' => e = .returned (.bool false) ∧ Below w.heap.size w w' := by
 have H0 := HA.start w
 go_enter Tryz.func11, Tryz.ntmps11
 refine zsr ?_
 refine zwv (.bool false) ?_
 refine znt ?_
 refine wp_seq ?_
 refine zsr ?_
 refine zwv (.string gs) ?_
 refine zwu (run_len (s := gs)) ?_
 refine zwu (run_nei (k := .i64) (a := gs.size) (b := 64) false (decide_eq_false (fun h => h hg))) ?_
 refine zwv (.bool false) ?_
 refine zwv (.string gs) ?_
 refine zwu (Sc.run_cut_lo (s := gs) (a := 32) (by rw [hg]; decide)) ?_
 refine zwc H0 ent31 (hI w) ?_
 intro w1 h2
 refine zwv (.bool false) ?_
 refine zwv (.bool false) ?_
 refine znt ?_
 refine zcf ?_
 refine wp_skip ?_
 refine then_at rfl ?_
 refine zsr ?_
 refine zwv (.string gs) ?_
 refine zwu (Sc.run_cut_hi (s := gs) (b := 32) (by rw [hg]; decide)) ?_
 refine zwc h2 ent32 (hR w1) ?_
 intro w3 h4
 refine zwv (.tuple #[.agg (rq qr), .bool true]) ?_
 refine zwv (.agg (rq qr)) ?_
 refine zwv (.bool true) ?_
 refine wl_make h4 53 run_alloc34 ?_
 intro q5 w6 h7
 refine wl_fill (c' := rq qr) h7 0 rfl (rq_sz qr (Q4.mk 0 0 0 0)) (info34q qr) (one_rq qr) ?_
 intro w8 (h9 : HA w [(q5, 53, rq qr)] w8)
 refine zwv (.bool true) ?_
 refine znt ?_
 refine zsr ?_
 refine zwv (.string p) ?_
 refine zwc h9 ent32 (hA w8) ?_
 intro w10 h11
 refine zwv (.tuple #[.agg (rq (mdQ 0 1)), .bool false]) ?_
 refine zwv (.agg (rq (mdQ 0 1))) ?_
 refine zwv (.bool false) ?_
 refine wl_make h11 53 run_alloc34 ?_
 intro q12 w13 h14
 refine wl_fill (c' := rq (mdQ 0 1)) h14 0 rfl (rq_sz (mdQ 0 1) (Q4.mk 0 0 0 0)) (info34q (mdQ 0 1)) (one_rq (mdQ 0 1)) ?_
 intro w15 (h16 : HA w [(q12, 53, rq (mdQ 0 1)), (q5, 53, rq qr)] w15)
 refine zwv (.bool false) ?_
 refine znt ?_
 refine wp_seq ?_
 refine zsr ?_
 refine zwv (.bool true) ?_
 refine zwv (.bool false) ?_
 refine zwv (.bool false) ?_
 refine zwv (.bool false) ?_
 refine zwv (.bool true) ?_
 refine zwv (.bool true) ?_
 refine znt ?_
 refine zct ?_
 refine zsr ?_
 refine zwv (.bool false) ?_
 refine znt ?_
 exact wp_ret (zb h16.old)
def zSgR_0 (p : ByteArray) (t : ByteArray) (gs : ByteArray) q5 q12 (k : ByteArray) (Cr : Array Value) (Cp : Array Value) (Cl : Array Value) (zx6 zx12 : Value) (zt : List Value) := (.string p :: .string t :: .string gs :: un :: un :: un :: zx6 :: pt q5 :: .bool true :: pt q12 :: .bool true :: .string k :: zx12 :: .string gs :: iN .i64 gs.size :: .bool false :: .bool false :: .string gs :: .string (gs.extract 32 gs.size) :: .bool true :: .bool false :: .bool false :: .tuple #[.agg Cr, .bool true] :: .string gs :: .string (gs.extract 0 32) :: .tuple #[.agg Cr, .bool true] :: .agg Cr :: .bool true :: .tuple #[.agg Cp, .bool true] :: .string p :: .tuple #[.agg Cp, .bool true] :: .agg Cp :: .bool true :: .bool true :: .bool false :: .bool false :: .bool true :: .bool false :: .bool false :: .string gs :: .string (gs.extract 0 32) :: .string p :: .string (gs.extract 0 32 ++ p) :: .string t :: .string ((gs.extract 0 32 ++ p) ++ t) :: .string k :: .agg (rq (mdQ bX bY)) :: .string gs :: .string (gs.extract 32 gs.size) :: .agg Cl :: zt : List Value)
theorem rver_yes (p t gs : ByteArray) (hp : p.size ≤ 562949953421312) (ht : t.size ≤ 562949953421312) (hg : gs.size = 64) (hI : (∀ w, Calls Tryz.prog 31 #[.string (gs.extract 32 gs.size)] w fun e w' => e = .returned (.bool true) ∧ Below w.heap.size w w')) (Cr : Array Value) (Crz : Cr.size = 64) (Cr1 : Cr.all (·.oneCell') = true) (Cp : Array Value) (Cpz : Cp.size = 64) (Cp1 : Cp.all (·.oneCell') = true) (Cl : Array Value) (Clz : Cl.size = 64) (Cl1 : Cl.all (·.oneCell') = true) (Ck : Array Value) (Ckz : Ck.size = 64) (Ck1 : Ck.all (·.oneCell') = true) (Cs : Array Value) (Csz : Cs.size = 64) (Cs1 : Cs.all (·.oneCell') = true) (hR : (∀ w, Calls Tryz.prog 32 #[.string (gs.extract 0 32)] w fun e w' => e = .returned (.tuple #[.agg Cr, .bool true]) ∧ Below w.heap.size w w')) (hA : (∀ w, Calls Tryz.prog 32 #[.string p] w fun e w' => e = .returned (.tuple #[.agg Cp, .bool true]) ∧ Below w.heap.size w w')) (k : ByteArray) (gz : (gs.extract 0 32).size = 32) (hk : (∀ w, Calls Tryz.prog 21 #[.string ((gs.extract 0 32 ++ p) ++ t)] w fun e w' => e = .returned (.string k) ∧ Below w.heap.size w w')) (cl : (∀ w, Calls Tryz.prog 33 #[.agg (rq (mdQ bX bY)), .string (gs.extract 32 gs.size)] w fun e w' => e = .returned (.agg Cl) ∧ Below w.heap.size w w')) (ck : (∀ w, Calls Tryz.prog 33 #[.agg Cp, .string k] w fun e w' => e = .returned (.agg Ck) ∧ Below w.heap.size w w')) (cs_ : (∀ w, Calls Tryz.prog 36 #[.agg Cr, .agg Ck] w fun e w' => e = .returned (.agg Cs) ∧ Below w.heap.size w w')) (ce : (∀ w, Calls Tryz.prog 35 #[.agg Cl, .agg Cs] w fun e w' => e = .returned (.bool true) ∧ Below w.heap.size w w')) (w : World) :
  Calls Tryz.prog 11 #[.string p, .string t, .string gs] w fun e w' => e = .returned (.bool true) ∧ Below w.heap.size w w' := by
 have H0 := HA.start w
 go_enter Tryz.func11, Tryz.ntmps11
 refine zsr ?_
 refine zwv (.bool false) ?_
 refine znt ?_
 refine wp_seq ?_
 refine zsr ?_
 refine zwv (.string gs) ?_
 refine zwu (run_len (s := gs)) ?_
 refine zwu (run_nei (k := .i64) (a := gs.size) (b := 64) false (decide_eq_false (fun h => h hg))) ?_
 refine zwv (.bool false) ?_
 refine zwv (.string gs) ?_
 refine zwu (Sc.run_cut_lo (s := gs) (a := 32) (by rw [hg]; decide)) ?_
 refine zwc H0 ent31 (hI w) ?_
 intro w1 h2
 refine zwv (.bool false) ?_
 refine zwv (.bool false) ?_
 refine znt ?_
 refine zcf ?_
 refine wp_skip ?_
 refine then_at rfl ?_
 refine zsr ?_
 refine zwv (.string gs) ?_
 refine zwu (Sc.run_cut_hi (s := gs) (b := 32) (by rw [hg]; decide)) ?_
 refine zwc h2 ent32 (hR w1) ?_
 intro w3 h4
 refine zwv (.tuple #[.agg Cr, .bool true]) ?_
 refine zwv (.agg Cr) ?_
 refine zwv (.bool true) ?_
 refine wl_make h4 53 run_alloc34 ?_
 intro q5 w6 h7
 refine wl_fill (c' := Cr) h7 0 rfl (rz64 Cr Crz) (inf64 Cr Crz) Cr1 ?_
 intro w8 (h9 : HA w [(q5, 53, Cr)] w8)
 refine zwv (.bool true) ?_
 refine znt ?_
 refine zsr ?_
 refine zwv (.string p) ?_
 refine zwc h9 ent32 (hA w8) ?_
 intro w10 h11
 refine zwv (.tuple #[.agg Cp, .bool true]) ?_
 refine zwv (.agg Cp) ?_
 refine zwv (.bool true) ?_
 refine wl_make h11 53 run_alloc34 ?_
 intro q12 w13 h14
 refine wl_fill (c' := Cp) h14 0 rfl (rz64 Cp Cpz) (inf64 Cp Cpz) Cp1 ?_
 intro w15 (h16 : HA w [(q12, 53, Cp), (q5, 53, Cr)] w15)
 refine zwv (.bool true) ?_
 refine znt ?_
 refine wp_seq ?_
 refine zsr ?_
 refine zwv (.bool true) ?_
 refine zwv (.bool false) ?_
 refine zwv (.bool false) ?_
 refine zwv (.bool true) ?_
 refine zwv (.bool false) ?_
 refine zwv (.bool false) ?_
 refine znt ?_
 refine zcf ?_
 refine wp_skip ?_
 refine then_at rfl ?_
 refine zsr ?_
 refine zwv (.string gs) ?_
 refine zwu (Sc.run_cut_hi (s := gs) (b := 32) (by rw [hg]; decide)) ?_
 refine zwv (.string p) ?_
 refine zwu (run_cat (s := gs.extract 0 32) (t := p) (by omega)) ?_
 refine zwv (.string t) ?_
 refine zwu (run_cat (s := (gs.extract 0 32 ++ p)) (t := t) (by rw [app_size]; omega)) ?_
 refine zwc h16 ent21 (hk w15) ?_
 intro w17 h18
 refine zwv (.string k) ?_
 refine znt ?_
 refine wp_seq ?_
 obtain ⟨B19, eB19⟩ : ∃ B, B = w17.heap.size := ⟨_, rfl⟩
 refine zrg (fun g : Nat → Nat => (⟨(zSgR_0 p t gs q5 q12 k Cr Cp Cl (.bool false) (pt (g 4)) (List.replicate 7 un)).toArray, []⟩ : Act)) (GS w [(q12, 53, Cp), (q5, 53, Cr)] B19 1 4 5 53 (rq (Q4.mk 0 0 0 0)) (fun _ => Cl)) (fun d hd => GS.start h18.drew eB19 (by decide) (fun _ _ => (rz64 Cl Clz)) (fun j hj => hd j (Nat.lt_of_lt_of_le hj (by decide)))) ?_ ?_
 ·refine zg (ghost_call (v := .agg (rq (mdQ bX bY))) ent34 #[] (fun w' h' => rBase_any w')) ?_
  refine zg (ghost_plain (v := .string gs)) ?_
  refine zg (ghost_plain (v := .string (gs.extract 32 gs.size)) (hr := (fun _ _ => (Sc.run_cut_lo (s := gs) (a := 32) (by rw [hg]; decide))))) ?_
  refine zg (ghost_call (v := .agg Cl) ent33 #[.agg (rq (mdQ bX bY)), .string (gs.extract 32 gs.size)] (fun w' h' => cl w')) ?_
  refine zg (ghost_make 0 rfl (fun _ _ => run_alloc34)) ?_
  refine zg (ghost_fill 0 rfl (inf64 Cl Clz) Cl1) ?_
  exact AllGhost.nil
 intro g w20 g21
 have h22 : HA w [(g 4, 53, Cl), (q12, 53, Cp), (q5, 53, Cr)] w20 := g21.one
 clear g21 eB19
 generalize g 4 = q23 at h22 ⊢
 clear g
 refine then_at rfl ?_
 refine wp_seq ?_
 refine zrs ⟨(zSgR_0 p t gs q5 q12 k Cr Cp Cl (.bool true) (pt q23) (.agg Cl :: .agg Cr :: .agg Cp :: .string k :: .agg Ck :: .agg Cs :: .bool true :: [])).toArray, []⟩ (HA w [(q23, 53, Cl), (q12, 53, Cp), (q5, 53, Cr)]) h22.drew ?_ ?_
 ·refine zst (v := .agg Cl) (fun _ h => run_load_blk (h.get 0 rfl) Tryz.underlying53 rfl (inf64 Cl Clz)) ?_
  refine zst (v := .agg Cr) (fun _ h => run_load_blk (h.get 2 rfl) Tryz.underlying53 rfl (inf64 Cr Crz)) ?_
  refine zst (v := .agg Cp) (fun _ h => run_load_blk (h.get 1 rfl) Tryz.underlying53 rfl (inf64 Cp Cpz)) ?_
  refine zsp (.string k) ?_
  refine zsc ent33 HA.keep (fun w' h' => ck w') ?_
  refine zsc ent36 HA.keep (fun w' h' => cs_ w') ?_
  refine zsc ent35 HA.keep (fun w' h' => ce w') ?_
  refine zsp (.bool true) ?_
  exact AllSure.nil
 intro w24 h25
 refine then_at rfl ?_
 exact wp_ret (zb h25.old)
def zSgR_1 (p : ByteArray) (t : ByteArray) (gs : ByteArray) q5 q12 (k : ByteArray) (Cr : Array Value) (Cp : Array Value) (Cl : Array Value) (zx12 : Value) (zt : List Value) := (.string p :: .string t :: .string gs :: un :: un :: un :: .bool false :: pt q5 :: .bool true :: pt q12 :: .bool true :: .string k :: zx12 :: .string gs :: iN .i64 gs.size :: .bool false :: .bool false :: .string gs :: .string (gs.extract 32 gs.size) :: .bool true :: .bool false :: .bool false :: .tuple #[.agg Cr, .bool true] :: .string gs :: .string (gs.extract 0 32) :: .tuple #[.agg Cr, .bool true] :: .agg Cr :: .bool true :: .tuple #[.agg Cp, .bool true] :: .string p :: .tuple #[.agg Cp, .bool true] :: .agg Cp :: .bool true :: .bool true :: .bool false :: .bool false :: .bool true :: .bool false :: .bool false :: .string gs :: .string (gs.extract 0 32) :: .string p :: .string (gs.extract 0 32 ++ p) :: .string t :: .string ((gs.extract 0 32 ++ p) ++ t) :: .string k :: .agg (rq (mdQ bX bY)) :: .string gs :: .string (gs.extract 32 gs.size) :: .agg Cl :: zt : List Value)
theorem rver_no (p t gs : ByteArray) (hp : p.size ≤ 562949953421312) (ht : t.size ≤ 562949953421312) (hg : gs.size = 64) (hI : (∀ w, Calls Tryz.prog 31 #[.string (gs.extract 32 gs.size)] w fun e w' => e = .returned (.bool true) ∧ Below w.heap.size w w')) (Cr : Array Value) (Crz : Cr.size = 64) (Cr1 : Cr.all (·.oneCell') = true) (Cp : Array Value) (Cpz : Cp.size = 64) (Cp1 : Cp.all (·.oneCell') = true) (Cl : Array Value) (Clz : Cl.size = 64) (Cl1 : Cl.all (·.oneCell') = true) (Ck : Array Value) (Ckz : Ck.size = 64) (Ck1 : Ck.all (·.oneCell') = true) (Cs : Array Value) (Csz : Cs.size = 64) (Cs1 : Cs.all (·.oneCell') = true) (hR : (∀ w, Calls Tryz.prog 32 #[.string (gs.extract 0 32)] w fun e w' => e = .returned (.tuple #[.agg Cr, .bool true]) ∧ Below w.heap.size w w')) (hA : (∀ w, Calls Tryz.prog 32 #[.string p] w fun e w' => e = .returned (.tuple #[.agg Cp, .bool true]) ∧ Below w.heap.size w w')) (k : ByteArray) (gz : (gs.extract 0 32).size = 32) (hk : (∀ w, Calls Tryz.prog 21 #[.string ((gs.extract 0 32 ++ p) ++ t)] w fun e w' => e = .returned (.string k) ∧ Below w.heap.size w w')) (cl : (∀ w, Calls Tryz.prog 33 #[.agg (rq (mdQ bX bY)), .string (gs.extract 32 gs.size)] w fun e w' => e = .returned (.agg Cl) ∧ Below w.heap.size w w')) (ck : (∀ w, Calls Tryz.prog 33 #[.agg Cp, .string k] w fun e w' => e = .returned (.agg Ck) ∧ Below w.heap.size w w')) (cs_ : (∀ w, Calls Tryz.prog 36 #[.agg Cr, .agg Ck] w fun e w' => e = .returned (.agg Cs) ∧ Below w.heap.size w w')) (ce : (∀ w, Calls Tryz.prog 35 #[.agg Cl, .agg Cs] w fun e w' => e = .returned (.bool false) ∧ Below w.heap.size w w')) (w : World) :
  Calls Tryz.prog 11 #[.string p, .string t, .string gs] w fun e w' => e = .returned (.bool false) ∧ Below w.heap.size w w' := by
 have H0 := HA.start w
 go_enter Tryz.func11, Tryz.ntmps11
 refine zsr ?_
 refine zwv (.bool false) ?_
 refine znt ?_
 refine wp_seq ?_
 refine zsr ?_
 refine zwv (.string gs) ?_
 refine zwu (run_len (s := gs)) ?_
 refine zwu (run_nei (k := .i64) (a := gs.size) (b := 64) false (decide_eq_false (fun h => h hg))) ?_
 refine zwv (.bool false) ?_
 refine zwv (.string gs) ?_
 refine zwu (Sc.run_cut_lo (s := gs) (a := 32) (by rw [hg]; decide)) ?_
 refine zwc H0 ent31 (hI w) ?_
 intro w1 h2
 refine zwv (.bool false) ?_
 refine zwv (.bool false) ?_
 refine znt ?_
 refine zcf ?_
 refine wp_skip ?_
 refine then_at rfl ?_
 refine zsr ?_
 refine zwv (.string gs) ?_
 refine zwu (Sc.run_cut_hi (s := gs) (b := 32) (by rw [hg]; decide)) ?_
 refine zwc h2 ent32 (hR w1) ?_
 intro w3 h4
 refine zwv (.tuple #[.agg Cr, .bool true]) ?_
 refine zwv (.agg Cr) ?_
 refine zwv (.bool true) ?_
 refine wl_make h4 53 run_alloc34 ?_
 intro q5 w6 h7
 refine wl_fill (c' := Cr) h7 0 rfl (rz64 Cr Crz) (inf64 Cr Crz) Cr1 ?_
 intro w8 (h9 : HA w [(q5, 53, Cr)] w8)
 refine zwv (.bool true) ?_
 refine znt ?_
 refine zsr ?_
 refine zwv (.string p) ?_
 refine zwc h9 ent32 (hA w8) ?_
 intro w10 h11
 refine zwv (.tuple #[.agg Cp, .bool true]) ?_
 refine zwv (.agg Cp) ?_
 refine zwv (.bool true) ?_
 refine wl_make h11 53 run_alloc34 ?_
 intro q12 w13 h14
 refine wl_fill (c' := Cp) h14 0 rfl (rz64 Cp Cpz) (inf64 Cp Cpz) Cp1 ?_
 intro w15 (h16 : HA w [(q12, 53, Cp), (q5, 53, Cr)] w15)
 refine zwv (.bool true) ?_
 refine znt ?_
 refine wp_seq ?_
 refine zsr ?_
 refine zwv (.bool true) ?_
 refine zwv (.bool false) ?_
 refine zwv (.bool false) ?_
 refine zwv (.bool true) ?_
 refine zwv (.bool false) ?_
 refine zwv (.bool false) ?_
 refine znt ?_
 refine zcf ?_
 refine wp_skip ?_
 refine then_at rfl ?_
 refine zsr ?_
 refine zwv (.string gs) ?_
 refine zwu (Sc.run_cut_hi (s := gs) (b := 32) (by rw [hg]; decide)) ?_
 refine zwv (.string p) ?_
 refine zwu (run_cat (s := gs.extract 0 32) (t := p) (by omega)) ?_
 refine zwv (.string t) ?_
 refine zwu (run_cat (s := (gs.extract 0 32 ++ p)) (t := t) (by rw [app_size]; omega)) ?_
 refine zwc h16 ent21 (hk w15) ?_
 intro w17 h18
 refine zwv (.string k) ?_
 refine znt ?_
 refine wp_seq ?_
 obtain ⟨B19, eB19⟩ : ∃ B, B = w17.heap.size := ⟨_, rfl⟩
 refine zrg (fun g : Nat → Nat => (⟨(zSgR_1 p t gs q5 q12 k Cr Cp Cl (pt (g 4)) (List.replicate 7 un)).toArray, []⟩ : Act)) (GS w [(q12, 53, Cp), (q5, 53, Cr)] B19 1 4 5 53 (rq (Q4.mk 0 0 0 0)) (fun _ => Cl)) (fun d hd => GS.start h18.drew eB19 (by decide) (fun _ _ => (rz64 Cl Clz)) (fun j hj => hd j (Nat.lt_of_lt_of_le hj (by decide)))) ?_ ?_
 ·refine zg (ghost_call (v := .agg (rq (mdQ bX bY))) ent34 #[] (fun w' h' => rBase_any w')) ?_
  refine zg (ghost_plain (v := .string gs)) ?_
  refine zg (ghost_plain (v := .string (gs.extract 32 gs.size)) (hr := (fun _ _ => (Sc.run_cut_lo (s := gs) (a := 32) (by rw [hg]; decide))))) ?_
  refine zg (ghost_call (v := .agg Cl) ent33 #[.agg (rq (mdQ bX bY)), .string (gs.extract 32 gs.size)] (fun w' h' => cl w')) ?_
  refine zg (ghost_make 0 rfl (fun _ _ => run_alloc34)) ?_
  refine zg (ghost_fill 0 rfl (inf64 Cl Clz) Cl1) ?_
  exact AllGhost.nil
 intro g w20 g21
 have h22 : HA w [(g 4, 53, Cl), (q12, 53, Cp), (q5, 53, Cr)] w20 := g21.one
 clear g21 eB19
 generalize g 4 = q23 at h22 ⊢
 clear g
 refine then_at rfl ?_
 refine wp_seq ?_
 refine zrs ⟨(zSgR_1 p t gs q5 q12 k Cr Cp Cl (pt q23) (.agg Cl :: .agg Cr :: .agg Cp :: .string k :: .agg Ck :: .agg Cs :: .bool false :: [])).toArray, []⟩ (HA w [(q23, 53, Cl), (q12, 53, Cp), (q5, 53, Cr)]) h22.drew ?_ ?_
 ·refine zst (v := .agg Cl) (fun _ h => run_load_blk (h.get 0 rfl) Tryz.underlying53 rfl (inf64 Cl Clz)) ?_
  refine zst (v := .agg Cr) (fun _ h => run_load_blk (h.get 2 rfl) Tryz.underlying53 rfl (inf64 Cr Crz)) ?_
  refine zst (v := .agg Cp) (fun _ h => run_load_blk (h.get 1 rfl) Tryz.underlying53 rfl (inf64 Cp Cpz)) ?_
  refine zsp (.string k) ?_
  refine zsc ent33 HA.keep (fun w' h' => ck w') ?_
  refine zsc ent36 HA.keep (fun w' h' => cs_ w') ?_
  refine zsc ent35 HA.keep (fun w' h' => ce w') ?_
  refine zsp (.bool false) ?_
  exact AllSure.nil
 intro w24 h25
 refine then_at rfl ?_
 exact wp_ret (zb h25.old)
theorem rver_sum (p t gs : ByteArray) (hp : p.size ≤ 562949953421312) (ht : t.size ≤ 562949953421312) (hg : gs.size = 64) (hI : Sc.isS (gs.extract 32 gs.size)) (R A : Pt) (hR : encP R = gs.extract 0 32) (hA : encP A = p) (b : Bool) (hb : (b = true → mP bP (numS (gs.extract 32 gs.size)) = aP R (mP A (numS (kvS p t (gs.extract 0 32))))) ∧ (b = false → mP bP (numS (gs.extract 32 gs.size)) ≠ aP R (mP A (numS (kvS p t (gs.extract 0 32)))))) (w : World) : Calls Tryz.prog 11 #[.string p, .string t, .string gs] w fun e w' => e = .returned (.bool b) ∧ Below w.heap.size w w' := by
 have gz : (gs.extract 0 32).size = 32 := ext_size gs 0 32 (by rw [hg]; decide)
 obtain ⟨ql, hl, cl⟩ := rmul_ex Rp.base (gs.extract 32 gs.size) hI.1
 obtain ⟨qk, hk, ck⟩ := rmul_ex (Rp.self A) (kvS p t (gs.extract 0 32)) (kS_size _)
 obtain ⟨qs, hs, cs_⟩ := radd_ex (Rp.self R) hk
 have hn : ∀ w, Calls Tryz.prog 21 #[.string ((gs.extract 0 32 ++ p) ++ t)] w fun e w' => e = .returned (.string (kvS p t (gs.extract 0 32))) ∧ Below w.heap.size w w' := fun w => by
  have h := rnumber_any ((gs.extract 0 32 ++ p) ++ t) (by rw [app_size, app_size, gz]; omega) w
  rw [bl_app, bl_app, List.append_assoc] at h
  exact h
 cases b
 ·exact rver_no p t gs hp ht hg (fun w => Sc.rCheck_yes _ hI w) (rq _) (rq_size _) (one_rq _) (rq _) (rq_size _) (one_rq _) (rq ql) (rq_size _) (one_rq _) (rq qk) (rq_size _) (one_rq _) (rq qs) (rq_size _) (one_rq _) (fun w => rof_at R _ hR w) (fun w => rof_at A _ hA w) _ gz hn cl ck cs_ (fun w => rsame_no hl hs (hb.2 rfl) w) w
 ·exact rver_yes p t gs hp ht hg (fun w => Sc.rCheck_yes _ hI w) (rq _) (rq_size _) (one_rq _) (rq _) (rq_size _) (one_rq _) (rq ql) (rq_size _) (one_rq _) (rq qk) (rq_size _) (one_rq _) (rq qs) (rq_size _) (one_rq _) (fun w => rof_at R _ hR w) (fun w => rof_at A _ hA w) _ gz hn cl ck cs_ (fun w => rsame_yes hl hs (hb.1 rfl) w) w
theorem rVerify_yes (p t gs : ByteArray) (hp : p.size ≤ 562949953421312) (ht : t.size ≤ 562949953421312) (h : verP p t gs) (w : World) : Calls Tryz.prog 11 #[.string p, .string t, .string gs] w fun e w' => e = .returned (.bool true) ∧ Below w.heap.size w w' := by
 obtain ⟨hg, hI, R, A, hR, hA, hE⟩ := h
 exact rver_sum p t gs hp ht hg hI R A hR hA true ⟨fun _ => hE, fun h => by cases h⟩ w
theorem rVerify_no (p t gs : ByteArray) (hp : p.size ≤ 562949953421312) (ht : t.size ≤ 562949953421312) (h : ¬ verP p t gs) (w : World) : Calls Tryz.prog 11 #[.string p, .string t, .string gs] w fun e w' => e = .returned (.bool false) ∧ Below w.heap.size w w' := by
 by_cases hg : gs.size = 64
 ·by_cases hI : Sc.isS (gs.extract 32 gs.size)
  ·by_cases hR : ∃ R, encP R = gs.extract 0 32
   ·obtain ⟨R, hR⟩ := hR
    by_cases hA : ∃ A, encP A = p
    ·obtain ⟨A, hA⟩ := hA
     exact rver_sum p t gs hp ht hg hI R A hR hA false ⟨fun h => (by cases h), fun _ hE => h ⟨hg, hI, R, A, hR, hA, hE⟩⟩ w
    ·exact rver_A p t gs hp ht hg (fun w => Sc.rCheck_yes _ hI w) _ (fun w => rof_at R _ hR w) (fun w => rofN_none p (fun q e => hA ⟨q, e⟩) w) w
   ·have hR' : ∀ w, Calls Tryz.prog 32 #[.string (gs.extract 0 32)] w fun e w' => e = .returned (.tuple #[.agg (rq (mdQ 0 1)), .bool false]) ∧ Below w.heap.size w w' := fun w => rofN_none _ (fun q e => hR ⟨q, e⟩) w
    by_cases hA : ∃ A, encP A = p
    ·obtain ⟨A, hA⟩ := hA
     exact rver_RA p t gs hp ht hg (fun w => Sc.rCheck_yes _ hI w) hR' _ (fun w => rof_at A _ hA w) w
    ·exact rver_RN p t gs hp ht hg (fun w => Sc.rCheck_yes _ hI w) hR' (fun w => rofN_none p (fun q e => hA ⟨q, e⟩) w) w
  ·exact rver_chk p t gs hp ht hg (fun w => Sc.rCheck_no _ hI w) w
 ·exact rver_len p t gs hp ht hg w
end Go.Proofs.YtefjnfeckenmkaaGreatDoor
