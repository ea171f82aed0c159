/-
 what a text adds.
-/
import Derived.Test.YtefjnfeckenmkaaGreatDoorH2
import Derived.Test.YtefjnfeckenmkaaGreatDoorHs3
import Derived.Test.YtefjnfeckenmkaaGreatDoorB0
namespace Go.Proofs.YtefjnfeckenmkaaGreatDoor.Hh
set_option linter.unusedVariables false
set_option maxRecDepth 100000
set_option maxHeartbeats 2000000
open Go.RowKit
theorem takeL (s : ByteArray) (qk qb qs qa n0 : Nat) (buf0 : List UInt8) (st0 : List (BitVec 64)) (L' : List (Nat × TypeId × Array Value)) (w0 w : World) (VV : Vars w0) (hn0 : n0 < 128) (hbuf0 : buf0.length = 128) (hst0 : st0.length = 8)
  (H0 : HA w0 ((qb, 71, #[.slice (some ⟨qa, 0, none⟩) n0 128]) :: (qa, 5, bc buf0) :: (qs, 107, wc .u64 st0) :: (qk, 103, kcL) :: L') w) :
  Calls Tryz.prog 115 #[.string s, .pointer (some ⟨qk, 0, none⟩), .pointer (some ⟨qb, 0, none⟩), .pointer (some ⟨qs, 0, none⟩)] w fun e w' => (∃ v, e = .returned v) ∧ ∃ buf : List UInt8, buf.length = 128 ∧ buf.take (fedP KL (st0, buf0.take n0) (bl s)).2.length = (fedP KL (st0, buf0.take n0) (bl s)).2 ∧
   HA w0 ((qb, 71, #[.slice (some ⟨qa, 0, none⟩) (fedP KL (st0, buf0.take n0) (bl s)).2.length 128]) :: (qa, 5, bc buf) :: (qs, 107, wc .u64 (fedP KL (st0, buf0.take n0) (bl s)).1) :: (qk, 103, kcL) :: L') w' := by
 go_enter Tryz.func115, Tryz.ntmps115
 refine wp_block ?_
 refine wp_while (fun mq A w' => ∃ (t : ByteArray) (n : Nat) (buf : List UInt8) (st : List (BitVec 64)) (u1 : Nat → Value), mq = t.size ∧ A = ⟨(.string t :: pt qk :: pt qb :: pt qs :: un :: u1 5 :: u1 6 :: u1 7 :: u1 8 :: u1 9 :: u1 10 :: u1 11 :: u1 12 :: u1 13 :: u1 14 :: u1 15 :: u1 16 :: u1 17 :: u1 18 :: u1 19 :: u1 20 :: u1 21 :: u1 22 :: u1 23 :: u1 24 :: u1 25 :: u1 26 :: u1 27 :: u1 28 :: u1 29 :: u1 30 :: u1 31 :: u1 32 :: u1 33 :: u1 34 :: u1 35 :: List.replicate 0 un).toArray, []⟩ ∧ HA w0 ((qb, 71, #[.slice (some ⟨qa, 0, none⟩) n 128]) :: (qa, 5, bc buf) :: (qs, 107, wc .u64 st) :: (qk, 103, kcL) :: L') w' ∧ fedP KL (st, buf.take n) (bl t) = fedP KL (st0, buf0.take n0) (bl s) ∧ n < 128 ∧ buf.length = 128 ∧ st.length = 8) s.size ?_ ?_
 ·exact ⟨s, n0, buf0, st0, lku (fun _ => undef) [], rfl, by kernel_rfl, H0, rfl, hn0, hbuf0, hst0⟩
 rintro _ _ w2 ⟨t, n, buf, st, u1, rfl, rfl, h3, hfe, hn, hbuf, hst⟩
 refine wp_seq ?_
 refine wp_seq ?_
 by_cases ht : 0 < t.size
 · -- region 0
  refine wl_region ?_
  refine zwv (.string t) ?_
  refine zwu (run_len (s := t)) ?_
  refine zwu (run_gtr (k := .i64) (a := t.size) (b := 0) (by kernel_rfl) (by kernel_rfl) true (decide_eq_true ht)) ?_
  refine znt ?_
  refine zct ?_
  refine wp_skip ?_
  refine then_at rfl ?_
  refine wp_block ?_
  refine zsr ?_
  refine zwv (.string t) ?_
  refine zwu (run_len (s := t)) ?_
  refine zwv (.pointer (some ⟨qk, 1, none⟩)) ?_
  refine zwu (v := iN .i64 128) (run_load1 Tryz.isAgg3 (((h3.get 3 rfl).cell 1).trans (by kernel_rfl))) ?_
  refine zwu (v := .slice (some ⟨qa, 0, none⟩) n 128) (run_load1 Tryz.isAgg71 (((h3.get 0 rfl).cell 0).trans rfl)) ?_
  refine zwu (run_len28 (q := some ⟨qa, 0, none⟩) (m := n) (c := 128) (by kernel_rfl)) ?_
  refine zwu (run_sub (k := .i64) (a := 128) (b := n) (by omega) (by simp only [top]; omega)) ?_
  refine zwu (run_min (i := t.size) (j := 128 - n) (by kernel_rfl) (by kernel_rfl)) ?_
  refine zwv (iN .i64 (min t.size (128 - n))) ?_
  refine znt ?_
  refine wp_seq ?_
  obtain ⟨m2, hm2⟩ : ∃ x, x = n + (t.extract 0 (min t.size (128 - n))).size := ⟨_, rfl⟩
  obtain ⟨b2, hb2⟩ : ∃ x, x = laidOn buf n (bl (t.extract 0 (min t.size (128 - n)))) := ⟨_, rfl⟩
  obtain ⟨t2, ht2⟩ : ∃ x, x = t.extract (min t.size (128 - n)) t.size := ⟨_, rfl⟩
  obtain ⟨r1, r2, r3, r4, r5, r6⟩ := take_round KL t n buf st ht hn hbuf m2 b2 t2 hm2 hb2 ht2
  have r1 : m2 ≤ 128 := r1
  have r2 : b2.length = 128 := r2
  refine zrg (fun _ : Nat → Nat => (⟨(.string t :: pt qk :: pt qb :: pt qs :: un :: iN .i64 (min t.size (128 - n)) :: .string t :: iN .i64 t.size :: .bool true :: .string t :: iN .i64 t.size :: .pointer (some ⟨qk, 1, none⟩) :: iN .i64 128 :: .slice (some ⟨qa, 0, none⟩) n 128 :: iN .i64 n :: iN .i64 (128 - n) :: iN .i64 (min t.size (128 - n)) :: .slice (some ⟨qa, 0, none⟩) n 128 :: .string t :: iN .i64 (min t.size (128 - n)) :: .string (t.extract 0 (min t.size (128 - n))) :: .slice (some ⟨qa, 0, none⟩) m2 128 :: u1 22 :: u1 23 :: u1 24 :: u1 25 :: u1 26 :: u1 27 :: u1 28 :: u1 29 :: u1 30 :: u1 31 :: u1 32 :: u1 33 :: u1 34 :: u1 35 :: List.replicate 0 un).toArray, []⟩ : Act)) (GE w0 ((qb, 71, #[.slice (some ⟨qa, 0, none⟩) n 128]) :: (qa, 5, bc buf) :: (qs, 107, wc .u64 st) :: (qk, 103, kcL) :: L') (fun _ => ((qb, 71, #[.slice (some ⟨qa, 0, none⟩) n 128]) :: (qa, 5, bc b2) :: (qs, 107, wc .u64 st) :: (qk, 103, kcL) :: L')) (fun _ => ((qb, 71, #[.slice (some ⟨qa, 0, none⟩) m2 128]) :: (qa, 5, bc b2) :: (qs, 107, wc .u64 st) :: (qk, 103, kcL) :: L')) (fun i => ([[], [], [], [1, 2], [0, 3], [4]] : List (List Nat)).getD i []) 4 5) (fun d hd => GE.start h3.drew (hd 4 (by decide)) (hd 5 (by decide)) (Cl.start (n := 6) hd (by decide))) ?_ ?_
  ·refine zg (ge_read (v := .slice (some ⟨qa, 0, none⟩) n 128) (by decide) (by decide) (fun d C h => (C 4 h 0 (by decide))) (by decide) (by kernel_rfl) (fun _ => by kernel_rfl) (fun _ => by kernel_rfl) (fun _ w' h' => run_load1 Tryz.isAgg71 (((h'.get 0 rfl).cell 0).trans rfl))) ?_
   refine zg (ge_plain (v := .string t)) ?_
   refine zg (ge_plain (v := iN .i64 (min t.size (128 - n)))) ?_
   refine zg (ge_plain (v := .string (t.extract 0 (min t.size (128 - n)))) (hr := (fun _ _ => run_cut_hi (s := t) (b := min t.size (128 - n)) (by kernel_rfl) (by kernel_rfl) (Nat.min_le_left _ _)))) ?_
   refine zg (ge_act0 (v := fun _ _ => .slice (some ⟨qa, 0, none⟩) m2 128) (W := fun _ w => w.setCells qa n ((bl (t.extract 0 (min t.size (128 - n)))).map by8)) (n := fun _ _ => 0) (by decide) (by decide) (by kernel_rfl) (fun _ => by kernel_rfl) (fun _ _ => by kernel_rfl) (fun g w' h' => ⟨by rw [hm2]; exact run_apps (q := qa) (m := n) (c := 128) (l := buf) (s := t.extract 0 (min t.size (128 - n))) (by kernel_rfl) (by kernel_rfl) (h'.get 1 rfl) (by rw [← hm2]; exact r1) hbuf, h'.app (q := qa) 1 rfl r4 hb2.symm⟩)) ?_
   refine zg (ge_act1s (W := fun _ w => w.setCell ⟨qb, 0, none⟩ (.slice (some ⟨qa, 0, none⟩) m2 128)) (by decide) (by kernel_rfl) (fun _ => by kernel_rfl) (fun _ => by kernel_rfl) (fun g w' h' => ⟨run_store_sl (q := qb) (i := 0) (by kernel_rfl) (by kernel_rfl) (by rw [(h'.get 0 rfl).cell 0]; rfl) ((h'.get 0 rfl).free 0 Nat.zero_lt_one), h'.putsl 0 rfl⟩)) ?_
   exact AllGhost.nil
  intro _ w4 g5
  have h6 : HA w0 ((qb, 71, #[.slice (some ⟨qa, 0, none⟩) m2 128]) :: (qa, 5, bc b2) :: (qs, 107, wc .u64 st) :: (qk, 103, kcL) :: L') w4 := g5.held
  clear g5
  refine then_at rfl ?_
  refine zsr ?_
  refine zwv (.string t) ?_
  refine zwv (iN .i64 (min t.size (128 - n))) ?_
  refine zwu (v := .string t2) (by rw [ht2]; exact run_cut_lo (s := t) (a := min t.size (128 - n)) (by kernel_rfl) (by kernel_rfl) (Nat.min_le_left _ _)) ?_
  refine zwv (.string t2) ?_
  refine znt ?_
  refine wp_seq ?_
  by_cases hf : m2 = 128
  ·subst hf
   refine wl_region ?_
   refine zwu (v := .slice (some ⟨qa, 0, none⟩) 128 128) (run_load1 Tryz.isAgg71 (((h6.get 0 rfl).cell 0).trans rfl)) ?_
   refine zwu (run_len28 (q := some ⟨qa, 0, none⟩) (m := 128) (c := 128) (by kernel_rfl)) ?_
   refine zwv (.pointer (some ⟨qk, 1, none⟩)) ?_
   refine zwu (v := iN .i64 128) (run_load1 Tryz.isAgg3 (((h6.get 3 rfl).cell 1).trans (by kernel_rfl))) ?_
   refine zwu (run_eqi (k := .i64) (a := 128) (b := 128) true (by decide)) ?_
   refine znt ?_
   refine zct ?_
   refine zsr ?_
   refine wl_load h6 3 rfl Tryz.underlying103 rfl info36L ?_
   refine wl_load h6 2 rfl Tryz.underlying107 rfl (info43 .u64 st hst) ?_
   refine zwu (v := .slice (some ⟨qa, 0, none⟩) 128 128) (run_load1 Tryz.isAgg71 (((h6.get 0 rfl).cell 0).trans rfl)) ?_
   refine zwc h6 enter27 (trnL st hst b2 r2 qa w4 (VV.below h6.old VV.big) (h6.get 1 rfl)) ?_
   intro w7 h8
   refine wl_fill (c' := wc .u64 (turnP KL st b2)) h8 2 rfl (by rw [wc_size, wc_size, ((turnP_len KL st b2).trans hst), hst]) (info43 .u64 (turnP KL st b2) ((turnP_len KL st b2).trans hst)) (one_wc .u64 (turnP KL st b2)) ?_
   intro w9 (h10 : HA w0 ((qb, 71, #[.slice (some ⟨qa, 0, none⟩) 128 128]) :: (qa, 5, bc b2) :: (qs, 107, wc .u64 (turnP KL st b2)) :: (qk, 103, kcL) :: L') w9)
   refine znt ?_
   refine wl_region ?_
   refine zwu (v := .slice (some ⟨qa, 0, none⟩) 128 128) (run_load1 Tryz.isAgg71 (((h10.get 0 rfl).cell 0).trans rfl)) ?_
   refine zwu (run_cut0 (q := qa) (m := 128) (c := 128) (by kernel_rfl) (by kernel_rfl)) ?_
   refine wl_putsl (q := qb) (n := 0) (m := 128) (o := some ⟨qa, 0, none⟩) h10 0 rfl (by kernel_rfl) (by kernel_rfl) (by kernel_rfl) ?_
   intro w11 (h12 : HA w0 ((qb, 71, #[.slice (some ⟨qa, 0, none⟩) 0 128]) :: (qa, 5, bc b2) :: (qs, 107, wc .u64 (turnP KL st b2)) :: (qk, 103, kcL) :: L') w11)
   refine wl_nil ?_
   refine block_normal ?_
   exact then_I ⟨t2.size, r3, t2, 0, b2, turnP KL st b2, lku (fun _ => undef) [(5, iN .i64 (min t.size (128 - n))), (6, .string t), (7, iN .i64 t.size), (8, .bool true), (9, .string t), (10, iN .i64 t.size), (11, .pointer (some ⟨qk, 1, none⟩)), (12, iN .i64 128), (13, .slice (some ⟨qa, 0, none⟩) n 128), (14, iN .i64 n), (15, iN .i64 (128 - n)), (16, iN .i64 (min t.size (128 - n))), (17, .slice (some ⟨qa, 0, none⟩) n 128), (18, .string t), (19, iN .i64 (min t.size (128 - n))), (20, .string (t.extract 0 (min t.size (128 - n)))), (21, .slice (some ⟨qa, 0, none⟩) 128 128), (22, .string t), (23, iN .i64 (min t.size (128 - n))), (24, .string t2), (25, .slice (some ⟨qa, 0, none⟩) 128 128), (26, iN .i64 128), (27, .pointer (some ⟨qk, 1, none⟩)), (28, iN .i64 128), (29, .bool true), (30, .agg kcL), (31, .agg (wc .u64 st)), (32, .slice (some ⟨qa, 0, none⟩) 128 128), (33, .agg (wc .u64 (turnP KL st b2))), (34, .slice (some ⟨qa, 0, none⟩) 128 128), (35, .slice (some ⟨qa, 0, none⟩) 0 128)], rfl, by kernel_rfl, h12, ((r6 rfl).symm.trans hfe), (by decide), r2, ((turnP_len KL st b2).trans hst)⟩
  · -- region 4
   refine wl_region ?_
   refine zwu (v := .slice (some ⟨qa, 0, none⟩) m2 128) (run_load1 Tryz.isAgg71 (((h6.get 0 rfl).cell 0).trans rfl)) ?_
   refine zwu (run_len28 (q := some ⟨qa, 0, none⟩) (m := m2) (c := 128) (by kernel_rfl)) ?_
   refine zwv (.pointer (some ⟨qk, 1, none⟩)) ?_
   refine zwu (v := iN .i64 128) (run_load1 Tryz.isAgg3 (((h6.get 3 rfl).cell 1).trans (by kernel_rfl))) ?_
   refine zwu (run_eqi (k := .i64) (a := m2) (b := 128) false (decide_eq_false hf)) ?_
   refine znt ?_
   refine zcf ?_
   refine wp_skip ?_
   refine block_normal ?_
   exact then_I ⟨t2.size, r3, t2, m2, b2, st, lku u1 [(5, iN .i64 (min t.size (128 - n))), (6, .string t), (7, iN .i64 t.size), (8, .bool true), (9, .string t), (10, iN .i64 t.size), (11, .pointer (some ⟨qk, 1, none⟩)), (12, iN .i64 128), (13, .slice (some ⟨qa, 0, none⟩) n 128), (14, iN .i64 n), (15, iN .i64 (128 - n)), (16, iN .i64 (min t.size (128 - n))), (17, .slice (some ⟨qa, 0, none⟩) n 128), (18, .string t), (19, iN .i64 (min t.size (128 - n))), (20, .string (t.extract 0 (min t.size (128 - n)))), (21, .slice (some ⟨qa, 0, none⟩) m2 128), (22, .string t), (23, iN .i64 (min t.size (128 - n))), (24, .string t2), (25, .slice (some ⟨qa, 0, none⟩) m2 128), (26, iN .i64 m2), (27, .pointer (some ⟨qk, 1, none⟩)), (28, iN .i64 128), (29, .bool false)], rfl, by kernel_rfl, h6, ((r5 hf).symm.trans hfe), (Nat.lt_of_le_of_ne r1 hf), r2, hst⟩
 · -- region 0
  refine wl_region ?_
  refine zwv (.string t) ?_
  refine zwu (run_len (s := t)) ?_
  refine zwu (run_gtr (k := .i64) (a := t.size) (b := 0) (by kernel_rfl) (by kernel_rfl) false (decide_eq_false ht)) ?_
  refine zna ⟨(.string t :: pt qk :: pt qb :: pt qs :: un :: u1 5 :: .string t :: iN .i64 t.size :: .bool false :: u1 9 :: u1 10 :: u1 11 :: u1 12 :: u1 13 :: u1 14 :: u1 15 :: u1 16 :: u1 17 :: u1 18 :: u1 19 :: u1 20 :: u1 21 :: u1 22 :: u1 23 :: u1 24 :: u1 25 :: u1 26 :: u1 27 :: u1 28 :: u1 29 :: u1 30 :: u1 31 :: u1 32 :: u1 33 :: u1 34 :: u1 35 :: List.replicate 0 un).toArray, []⟩ ?_
  refine zcf ?_
  refine wp_exit ?_
  repeat first | refine then_exit ?_ | refine block_exit ?_ | refine block_exit_ne (by decide) ?_
  go_end0
  have e : fedP KL (st0, buf0.take n0) (bl s) = (st, buf.take n) := by rw [← hfe]; rw [show bl t = [] from List.eq_nil_of_length_eq_zero (by rw [bl_len]; omega)]; rfl
  rw [e]
  have e2 : (buf.take n).length = n := by rw [List.length_take]; omega
  exact ⟨⟨_, rfl⟩, buf, hbuf, by rw [e2], by rw [e2]; exact h3⟩
end Go.Proofs.YtefjnfeckenmkaaGreatDoor.Hh

namespace Go.Proofs.YtefjnfeckenmkaaGreatDoor.Hh
set_option linter.unusedVariables false
set_option maxRecDepth 100000
set_option maxHeartbeats 2000000
open Go.RowKit
def szP (ps : List ByteArray) : Nat → Nat
 | 0 => 0
 | i + 1 => szP ps i + (ps.getD i ByteArray.empty).size
def catP (ps : List ByteArray) : Nat → List UInt8
 | 0 => []
 | i + 1 => catP ps i ++ bl (ps.getD i ByteArray.empty)
theorem szP_len (ps : List ByteArray) : ∀ i, szP ps i = (catP ps i).length
 | 0 => rfl
 | i + 1 => by rw [szP, catP, List.length_append, szP_len ps i, bl_len]
section
variable {ops : Array Oper} {Q : Exit → Act → World → Prop} {a : Act} {w : World} {rest : List Oper} {dst : Option Tmp} {ty : TypeId} {pos : String} {aft : Array Edge} {gd : Option (Nat × Bool)} {x : Operand}
theorem wl_callv {f : FuncId} {xs : Array Operand} {ats : Array TypeId} {cap : Array Value} {R : Ending → World → Prop} (hw : Region.wanted ⟨dst, .call { callee := .value x, args := xs, argTypes := ats }, ty, pos, aft, gd⟩ (yielded ops a.tmps) = true)
  (hr : ∀ args w, (callFunc f args).run Tryz.prog w = .ok (.enter f args) w) (hx : a.eval x = .func (.func f) #[] cap) (args : Array Value) (ha : #[] ++ xs.map a.eval ++ cap = args) (hc : Calls Tryz.prog f args w R)
  (h : ∀ e w', R e w' → ∃ v, e = .returned v ∧ WL Tryz.prog ops Q rest (a.put dst v) w') : WL Tryz.prog ops Q (⟨dst, .call { callee := .value x, args := xs, argTypes := ats }, ty, pos, aft, gd⟩ :: rest) a w := by
 refine ⟨?_⟩
 unfold wpList
 rw [if_pos hw]
 refine .inl ?_
 unfold Oper.wp
 rw [run_callv hr hx ha]
 refine hc.mono ?_
 intro e w' he
 obtain ⟨v, rfl, hl⟩ := h e w' he
 exact hl.out
end
def stL (ps : List ByteArray) (i : Nat) : List (BitVec 64) × List UInt8 := fedP KL (begP 64, []) (catP ps i)
theorem stL_lt (ps : List ByteArray) (i : Nat) : (stL ps i).2.length < 128 := fedP_lt KL (by decide) _ _ (by show 0 < 128; decide)
theorem stL_len (ps : List ByteArray) (i : Nat) : (stL ps i).1.length = 8 := (fedP_len KL _ _).trans (begP_len 64)
theorem stL_step (ps : List ByteArray) (i : Nat) (buf : List UInt8) (h : buf.take (stL ps i).2.length = (stL ps i).2) : fedP KL ((stL ps i).1, buf.take (stL ps i).2.length) (bl (ps.getD i ByteArray.empty)) = stL ps (i + 1) := by
 rw [h]; exact (fedP_app KL _ _ _).symm
def enL (ps : List ByteArray) (i : Nat) : List (BitVec 64) × List UInt8 := fedP KL (stL ps i) (fillP KL (szP ps i))
theorem en_lenL (ps : List ByteArray) (i : Nat) : (enL ps i).1.length = 8 := (fedP_len KL _ _).trans (stL_len ps i)
theorem en_stepL (ps : List ByteArray) (i : Nat) (buf : List UInt8) (h : buf.take (stL ps i).2.length = (stL ps i).2) : fedP KL ((stL ps i).1, buf.take (stL ps i).2.length) (bl ⟨(fillP KL (szP ps i)).toArray⟩) = enL ps i := by
 rw [h]; rfl
theorem en_digL (ps : List ByteArray) (i : Nat) : outP (enL ps i).1 8 = digP KL (catP ps i) := by
 unfold enL digP stL
 rw [← fedP_app, szP_len]
theorem digL (ps : List ByteArray) (o : Option Addr) (c : Nat) (w : World) (VV : Vars w) (hps : ∀ i, i < ps.length → ∃ q, o = some ⟨q, 0, none⟩ ∧ w.cell? ⟨q, i, none⟩ = some (.string (ps.getD i ByteArray.empty))) (hsz : ∀ i, i ≤ ps.length → szP ps i ≤ 2251799813685248) (hpl : ps.length ≤ 1000000) :
  Calls Tryz.prog 80 #[.agg kcL, .slice o ps.length c] w fun e w' => e = .returned (.string ⟨(digP KL (catP ps ps.length)).toArray⟩) ∧ Below w.heap.size w w' := by
 have H0 := HA.start w
 go_enter Tryz.func80, Tryz.ntmps80
 refine zsr ?_
 refine wl_make H0 103 (run_box36 (c := kcL) (by kernel_rfl)) ?_
 intro q1 w2 h3
 refine zwv (.string { data := #[] }) ?_
 refine znt ?_
 refine zsr ?_
 refine zwv (.pointer (some ⟨q1, 0, none⟩)) ?_
 refine zwu (v := iN .u64 64) (run_load1 Tryz.isAgg86 (((h3.get 0 rfl).cell 0).trans (by kernel_rfl))) ?_
 refine zwc h3 enter25 (begL w2 (VV.below h3.old VV.big)) ?_
 intro w4 h5
 refine wl_make h5 107 run_alloc43 ?_
 intro q6 w7 h8
 refine wl_fill (c' := wc .u64 (begP 64)) h8 0 rfl (by rw [wc_size, wc_size, (begP_len 64), (List.length_replicate)]) (info43 .u64 (begP 64) (begP_len 64)) (one_wc .u64 (begP 64)) ?_
 intro w9 (h10 : HA w [(q6, 107, wc .u64 (begP 64)), (q1, 103, kcL)] w9)
 refine znt ?_
 refine zsr ?_
 refine zwv (.pointer (some ⟨q1, 1, none⟩)) ?_
 refine zwu (v := iN .i64 128) (run_load1 Tryz.isAgg3 (((h10.get 1 rfl).cell 1).trans (by kernel_rfl))) ?_
 refine wl_mks (n := 0) (m := 128) h10 5 (run_mk (k := .i64) (m := 0) (c := 128) (by kernel_rfl) (by kernel_rfl) (by decide) (by decide)) ?_
 intro q11 w12 h13
 refine wl_make h13 71 run_alloc28 ?_
 intro q14 w15 h16
 refine wl_putsl (q := q14) (n := 0) (m := 128) (o := some ⟨q11, 0, none⟩) h16 0 rfl (by kernel_rfl) (by kernel_rfl) (by kernel_rfl) ?_
 intro w17 (h18 : HA w [(q14, 71, #[.slice (some ⟨q11, 0, none⟩) 0 128]), (q11, 5, bc (List.replicate 128 0)), (q6, 107, wc .u64 (begP 64)), (q1, 103, kcL)] w17)
 refine znt ?_
 refine zsr ?_
 refine zwv (.func (.func 115) #[] #[.pointer (some ⟨q1, 0, none⟩), .pointer (some ⟨q14, 0, none⟩), .pointer (some ⟨q6, 0, none⟩)]) ?_
 refine zwv (.func (.func 115) #[] #[.pointer (some ⟨q1, 0, none⟩), .pointer (some ⟨q14, 0, none⟩), .pointer (some ⟨q6, 0, none⟩)]) ?_
 refine znt ?_
 refine zsr ?_
 refine zwv (iN .i64 0) ?_
 refine znt ?_
 refine wp_seq ?_
 refine zsr ?_
 refine zwv (.slice o ps.length c) ?_
 refine zwu (run_len26 (q := o) (m := ps.length) (c := c) (by kernel_rfl)) ?_
 refine zwv (iN .i64 0) ?_
 refine znt ?_
 refine wp_block ?_
 refine wp_while (fun mq A w' => ∃ (kx : Nat) (buf : List UInt8) (u19 : Nat → Value), mq = ps.length - kx ∧ A = ⟨(.agg kcL :: .slice o ps.length c :: pt q1 :: un :: .string { data := #[] } :: pt q6 :: pt q14 :: .func (.func 115) #[] #[pt q1, pt q14, pt q6] :: iN .i64 (szP ps kx) :: un :: u19 10 :: pt q1 :: iN .u64 64 :: .agg (wc .u64 (begP 64)) :: .pointer (some ⟨q1, 1, none⟩) :: iN .i64 128 :: .slice (some ⟨q11, 0, none⟩) 0 128 :: .func (.func 115) #[] #[pt q1, pt q14, pt q6] :: .slice o ps.length c :: iN .i64 ps.length :: iN .i64 kx :: u19 21 :: u19 22 :: u19 23 :: u19 24 :: u19 25 :: u19 26 :: u19 27 :: u19 28 :: u19 29 :: u19 30 :: u19 31 :: List.replicate 9 un).toArray, []⟩ ∧ HA w [(q14, 71, #[.slice (some ⟨q11, 0, none⟩) ((stL ps kx).2.length) 128]), (q11, 5, bc buf), (q6, 107, wc .u64 ((stL ps kx).1)), (q1, 103, kcL)] w' ∧ kx ≤ ps.length ∧ buf.length = 128 ∧ buf.take (stL ps kx).2.length = (stL ps kx).2) (ps.length - 0) ?_ ?_
 ·exact ⟨0, List.replicate 128 0, lku (fun _ => undef) [], rfl, by kernel_rfl, h18, (Nat.zero_le _), (List.length_replicate), rfl⟩
 rintro _ _ w20 ⟨kx, buf, u19, rfl, rfl, h21, hkx, hbuf, htk⟩
 refine wp_seq ?_
 by_cases hk : kx < ps.length
 ·obtain ⟨qp, rfl, hc⟩ := hps kx hk
  have h9 : szP ps kx + (ps.getD kx ByteArray.empty).size ≤ 2251799813685248 := hsz (kx + 1) hk
  refine wl_region ?_
  refine zwu (run_lss (k := .i64) (a := kx) (b := ps.length) true (decide_eq_true hk)) ?_
  refine znt ?_
  refine wp_seq ?_
  refine zct ?_
  refine wp_skip ?_
  refine then_at rfl ?_
  refine wp_seq ?_
  refine wp_block ?_
  refine zsr ?_
  refine zwu (run_addr26 (q := qp) (m := ps.length) (c := c) (i := kx) (by kernel_rfl) (by kernel_rfl) hk) ?_
  refine zwu (run_load1 Tryz.isAgg9 ((h21.old.cell (p := ⟨qp, kx, none⟩) (World.block_lt_of_cell? w ⟨qp, kx, none⟩ hc)).trans hc)) ?_
  refine zwv (.string (ps.getD kx ByteArray.empty)) ?_
  refine znt ?_
  refine zsr ?_
  refine zwv (.func (.func 115) #[] #[.pointer (some ⟨q1, 0, none⟩), .pointer (some ⟨q14, 0, none⟩), .pointer (some ⟨q6, 0, none⟩)]) ?_
  refine zwv (.string (ps.getD kx ByteArray.empty)) ?_
  refine wl_callv (by kernel_rfl) enter26 (cap := #[.pointer (some ⟨q1, 0, none⟩), .pointer (some ⟨q14, 0, none⟩), .pointer (some ⟨q6, 0, none⟩)]) (by kernel_rfl) #[.string (ps.getD kx ByteArray.empty), .pointer (some ⟨q1, 0, none⟩), .pointer (some ⟨q14, 0, none⟩), .pointer (some ⟨q6, 0, none⟩)] (by kernel_rfl) (takeL (ps.getD kx ByteArray.empty) q1 q14 q6 q11 (stL ps kx).2.length buf (stL ps kx).1 [] w w20 VV (stL_lt ps kx) hbuf (stL_len ps kx) h21) ?_
  rintro _ w23 ⟨⟨v22, rfl⟩, buf2, hbuf2, htk2, h24⟩
  refine ⟨v22, rfl, ?_⟩
  rw [stL_step ps kx buf htk] at htk2 h24
  refine znt ?_
  refine wl_region ?_
  refine zwv (iN .i64 (szP ps kx)) ?_
  refine zwv (.string (ps.getD kx ByteArray.empty)) ?_
  refine zwu (run_len (s := ps.getD kx ByteArray.empty)) ?_
  refine zwu (run_add (k := .i64) (a := szP ps kx) (b := (ps.getD kx ByteArray.empty).size) (by simp only [top]; omega)) ?_
  refine zwv (iN .i64 ((szP ps kx) + ((ps.getD kx ByteArray.empty).size))) ?_
  refine wl_nil ?_
  refine block_normal ?_
  refine then_at rfl ?_
  refine wl_region ?_
  refine zwu (run_add (k := .i64) (a := kx) (b := 1) (by simp only [top]; omega)) ?_
  refine zwv (iN .i64 (kx + 1)) ?_
  refine wl_nil ?_
  exact then_I ⟨ps.length - (kx + 1), (by omega), kx + 1, buf2, lku (fun _ => undef) [(10, .string (ps.getD kx ByteArray.empty)), (21, .bool true), (22, .pointer (some ⟨qp, kx, none⟩)), (23, .string (ps.getD kx ByteArray.empty)), (24, .func (.func 115) #[] #[.pointer (some ⟨q1, 0, none⟩), .pointer (some ⟨q14, 0, none⟩), .pointer (some ⟨q6, 0, none⟩)]), (25, .string (ps.getD kx ByteArray.empty)), (26, v22), (27, iN .i64 (szP ps kx)), (28, .string (ps.getD kx ByteArray.empty)), (29, iN .i64 ((ps.getD kx ByteArray.empty).size)), (30, iN .i64 ((szP ps kx) + ((ps.getD kx ByteArray.empty).size))), (31, iN .i64 (kx + 1))], rfl, by kernel_rfl, h24, hk, hbuf2, htk2⟩
 · -- region 6
  refine wl_region ?_
  refine zwu (run_lss (k := .i64) (a := kx) (b := ps.length) false (decide_eq_false hk)) ?_
  refine znt ?_
  refine wp_seq ?_
  refine zcf ?_
  refine wp_exit ?_
  repeat first | refine then_exit ?_ | refine block_exit ?_ | refine block_exit_ne (by decide) ?_
  refine then_at rfl ?_
  refine zsr ?_
  refine zwv (.func (.func 115) #[] #[.pointer (some ⟨q1, 0, none⟩), .pointer (some ⟨q14, 0, none⟩), .pointer (some ⟨q6, 0, none⟩)]) ?_
  refine wl_load h21 3 rfl Tryz.underlying103 rfl info36L ?_
  refine zwv (iN .i64 (szP ps kx)) ?_
  refine zwc h21 enter23 (fillL (szP ps kx) (hsz kx hkx) w20) ?_
  intro w25 h26
  refine wl_callv (by kernel_rfl) enter26 (cap := #[.pointer (some ⟨q1, 0, none⟩), .pointer (some ⟨q14, 0, none⟩), .pointer (some ⟨q6, 0, none⟩)]) (by kernel_rfl) #[.string (⟨(fillP KL (szP ps kx)).toArray⟩), .pointer (some ⟨q1, 0, none⟩), .pointer (some ⟨q14, 0, none⟩), .pointer (some ⟨q6, 0, none⟩)] (by kernel_rfl) (takeL (⟨(fillP KL (szP ps kx)).toArray⟩) q1 q14 q6 q11 (stL ps kx).2.length buf (stL ps kx).1 [] w w25 VV (stL_lt ps kx) hbuf (stL_len ps kx) h26) ?_
  rintro _ w28 ⟨⟨v27, rfl⟩, buf2, hbuf2, htk2, h29⟩
  refine ⟨v27, rfl, ?_⟩
  rw [en_stepL ps kx buf htk] at htk2 h29
  refine zna ⟨(.agg kcL :: .slice o ps.length c :: pt q1 :: un :: .string { data := #[] } :: pt q6 :: pt q14 :: .func (.func 115) #[] #[pt q1, pt q14, pt q6] :: iN .i64 (szP ps kx) :: un :: u19 10 :: pt q1 :: iN .u64 64 :: .agg (wc .u64 (begP 64)) :: .pointer (some ⟨q1, 1, none⟩) :: iN .i64 128 :: .slice (some ⟨q11, 0, none⟩) 0 128 :: .func (.func 115) #[] #[pt q1, pt q14, pt q6] :: .slice o ps.length c :: iN .i64 ps.length :: iN .i64 kx :: .bool false :: u19 22 :: u19 23 :: u19 24 :: u19 25 :: u19 26 :: u19 27 :: u19 28 :: u19 29 :: u19 30 :: u19 31 :: .func (.func 115) #[] #[pt q1, pt q14, pt q6] :: .agg kcL :: iN .i64 (szP ps kx) :: .string (⟨(fillP KL (szP ps kx)).toArray⟩) :: v27 :: List.replicate 4 un).toArray, []⟩ ?_
  refine zsr ?_
  refine wl_load h29 2 rfl Tryz.underlying107 rfl (info43 .u64 ((enL ps kx).1) (en_lenL ps kx)) ?_
  refine zwv (.pointer (some ⟨q1, 0, none⟩)) ?_
  refine zwu (v := iN .u64 64) (run_load1 Tryz.isAgg86 (((h29.get 3 rfl).cell 0).trans (by kernel_rfl))) ?_
  refine zwc h29 enter28 (layL (enL ps kx).1 (en_lenL ps kx) w28) ?_
  intro w30 h31
  refine zwv (.string (⟨(outP (enL ps kx).1 8).toArray⟩)) ?_
  refine znt ?_
  refine wp_ret ?_
  repeat first | refine then_ret ?_ | refine block_ret ?_
  exact bodyPost_ret (v := .string ⟨(outP (enL ps kx).1 8).toArray⟩) (by kernel_rfl) rfl ⟨by rw [en_digL, show kx = ps.length by omega], h31.old⟩
theorem shaL (ps : List ByteArray) (o : Option Addr) (c : Nat) (w : World) (VV : Vars w) (hps : ∀ i, i < ps.length → ∃ q, o = some ⟨q, 0, none⟩ ∧ w.cell? ⟨q, i, none⟩ = some (.string (ps.getD i ByteArray.empty))) (hsz : ∀ i, i ≤ ps.length → szP ps i ≤ 2251799813685248) (hpl : ps.length ≤ 1000000) :
  Calls Tryz.prog 37 #[.slice o ps.length c] w fun e w' => e = .returned (.string ⟨(digP KL (catP ps ps.length)).toArray⟩) ∧ Below w.heap.size w w' := by
 have H0 := HA.start w
 go_enter Tryz.func37, Tryz.ntmps37
 refine zsr ?_
 refine zwv (.string { data := #[] }) ?_
 refine znt ?_
 refine zsr ?_
 refine zwu (run_load_range (q := 0) (by kernel_rfl) (VV.below H0.old VV.big).l Tryz.underlying103 rfl info36L) ?_
 refine zwv (.slice o ps.length c) ?_
 refine zwc H0 enter17 (digL ps o c w (VV.below H0.old VV.big) (fun i hi => (hps i hi).imp fun q h => ⟨h.1, (H0.old.cell (p := ⟨q, i, none⟩) (World.block_lt_of_cell? w ⟨q, i, none⟩ h.2)).trans h.2⟩) hsz hpl) ?_
 intro w1 h2
 refine zwv (.string (⟨(digP KL (catP ps ps.length)).toArray⟩)) ?_
 refine znt ?_
 refine wp_ret ?_
 repeat first | refine then_ret ?_ | refine block_ret ?_
 exact bodyPost_ret (by kernel_rfl) rfl ⟨rfl, h2.old⟩
end Go.Proofs.YtefjnfeckenmkaaGreatDoor.Hh

namespace Go.Proofs.YtefjnfeckenmkaaGreatDoor.Hh
open Go.RowKit
section
variable {ρ : Operand → Value} {x y : Operand} {w : World} {dst : Option Tmp} {ty : TypeId} {pos : String} {aft : Array Edge} {gd : Option (Nat × Bool)} {k : IntKind} {a : Nat} {s : ByteArray}
theorem run_idx (hx : ρ x = .string s) (hy : ρ y = iN k a) (ha : a < s.size) : (execOp ρ ⟨dst, .index 9 x y, ty, pos, aft, gd⟩).run Tryz.prog w = .ok (.value (by8 ((bl s).getD a 0))) w := by
 have e : s[a]? = some ((bl s).getD a 0) := by
  rw [List.getD_eq_getElem?_getD, List.getElem?_eq_getElem (by rw [bl_len]; exact ha)]
  exact getElem?_pos s a ha
 simp only [execOp, hx, hy, iN]
 simp [go_sem, Instr.index, run_underlying Tryz.underlying9, asIntOf, e]
 rfl
theorem run_bs1 {u : ByteArray} (hx : ρ x = .string u) : (execOp ρ ⟨dst, .buildSlice 61 1 #[(0, x)], ty, pos, aft, gd⟩).run Tryz.prog w = .ok (.value (.slice (some ⟨w.heap.size, 0, none⟩) 1 1)) (w.alloc (.cells #[.string u] 9)) := by
 simp only [execOp]
 go_simp
theorem run_bs2 {u v : ByteArray} (hx : ρ x = .string u) (hy : ρ y = .string v) : (execOp ρ ⟨dst, .buildSlice 61 2 #[(0, x), (1, y)], ty, pos, aft, gd⟩).run Tryz.prog w = .ok (.value (.slice (some ⟨w.heap.size, 0, none⟩) 2 2)) (w.alloc (.cells #[.string u, .string v] 9)) := by
 simp only [execOp]
 go_simp
end
theorem parts_of {w : World} {q : Nat} {ps : List ByteArray} (h : Blk w q 9 (ps.map Value.string).toArray) : ∀ i, i < ps.length → ∃ q', (some ⟨q, 0, none⟩ : Option Addr) = some ⟨q', 0, none⟩ ∧ w.cell? ⟨q', i, none⟩ = some (.string (ps.getD i ByteArray.empty)) := fun i hi => ⟨q, rfl, by
 rw [h.cell i]
 simp [List.getElem?_eq_getElem hi]⟩
end Go.Proofs.YtefjnfeckenmkaaGreatDoor.Hh

namespace Go.Proofs.YtefjnfeckenmkaaGreatDoor.Hh
open Go.RowKit
def psc (ps : List ByteArray) : Array Value := (ps.map Value.string).toArray
theorem parts_ofc {w : World} {q : Nat} {ps : List ByteArray} (h : Blk w q 9 (psc ps)) : ∀ i, i < ps.length → ∃ q', (some ⟨q, 0, none⟩ : Option Addr) = some ⟨q', 0, none⟩ ∧ w.cell? ⟨q', i, none⟩ = some (.string (ps.getD i ByteArray.empty)) := parts_of h
end Go.Proofs.YtefjnfeckenmkaaGreatDoor.Hh

namespace Go.Proofs.YtefjnfeckenmkaaGreatDoor.Hh
open Go.RowKit
theorem sz_one (s : ByteArray) (h : s.size ≤ 2251799813685248) : ∀ i, i ≤ 1 → szP [s] i ≤ 2251799813685248 := fun i hi => by
 rcases i with _ | _ | i
 ·exact Nat.zero_le _
 ·have e : szP [s] (0 + 1) = 0 + s.size := rfl
  rw [e]; omega
 ·omega
theorem dig_szL (l : List UInt8) : (⟨(digP KL l).toArray⟩ : ByteArray).size = 64 := by
 show (digP KL l).toArray.size = 64
 rw [List.size_toArray, digP_len]
 rfl
theorem shaL' (ps : List ByteArray) (n : Nat) (hn : ps.length = n) (o : Option Addr) (c : Nat) (w : World) (VV : Vars w) (hps : ∀ i, i < n → ∃ q, o = some ⟨q, 0, none⟩ ∧ w.cell? ⟨q, i, none⟩ = some (.string (ps.getD i ByteArray.empty))) (hsz : ∀ i, i ≤ n → szP ps i ≤ 2251799813685248) (hpl : n ≤ 1000000) :
  Calls Tryz.prog 37 #[.slice o n c] w fun e w' => e = .returned (.string ⟨(digP KL (catP ps n)).toArray⟩) ∧ Below w.heap.size w w' := by
 subst hn; exact shaL ps o c w VV hps hsz hpl
section
variable {ρ : Operand → Value} {x y : Operand} {w : World} {dst : Option Tmp} {T T2 ty : TypeId} {pos : String} {aft : Array Edge} {gd : Option (Nat × Bool)}
end
section
variable {ops : Array Oper} {Q : Exit → Act → World → Prop} {a : Act} {w w0 : World} {L : List (Nat × TypeId × Array Value)} {rest : List Oper} {dst : Option Tmp} {ty : TypeId} {pos : String} {aft : Array Edge} {gd : Option (Nat × Bool)} {x y : Operand}
end
end Go.Proofs.YtefjnfeckenmkaaGreatDoor.Hh
