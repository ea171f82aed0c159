/-
 Steps as they come in, and how much they bring.
-/
import Derived.Test.YtckmlaempffpjaaGreatGQ18
import Derived.Test.YtckmlaempffpjaaGreatRows
import Derived.ProofKit
import Derived.OpenShut
import Derived.Deep.Slices
import Derived.ChangeOld
namespace Go.Proofs.YtckmlaempffpjaaGreat
open Go.RowKit Go.Proofs.Tryz
structure Dq where
 kd : Int
 po : Option Addr
 pc : Nat
 ps : List Rw
 do_ : Option Addr
 dc : Nat
 ds : List ByteArray
 af : Int
 ko : Option Addr
 kc : Nat
 ks : List Int
def dq0 : Dq := ⟨0, none, 0, [], none, 0, [], 0, none, 0, []⟩
def cstD (x : Dq) : Nat := 900 + (x.ps.map fun r => r.k.size + r.v.size).sum + (x.ds.map fun r => r.size).sum
def dqc (x : Dq) : Array Value := (x5 x.kd x.po x.ps.length x.pc x.do_ x.ds.length x.dc x.af x.ko x.ks.length x.kc)
structure DqOk (W : World) (a : Addr) (x : Dq) : Prop where
 cell : ∀ j v, (dqc x)[j]? = some v → W.cell? (a.add j) = some v
 inn : DoIn W x.po x.pc x.ps x.do_ x.dc x.ds x.af x.ko x.ks (cstD x)
def DqA (W : World) (o : Option Addr) (al : List Dq) : Prop := ∀ i, i < al.length → ∃ a, o = some a ∧ DqOk W (a.add (i * 5)) (al.getD i dq0)
def cstN (al : List Dq) (i : Nat) : Nat := ((al.take i).map cstD).sum
theorem cstN_succ (al : List Dq) (i : Nat) (h : i < al.length) : cstN al (i + 1) = cstN al i + cstD (al.getD i dq0) := by
 unfold cstN
 rw [List.take_add_one, List.map_append, List.sum_append, List.getElem?_eq_getElem h, List.getD_eq_getElem?_getD, List.getElem?_eq_getElem h]
 simp
theorem LS.at {w0 : World} {M : ML} {d : Dk} {q rm B n : Nat} {o : Option (Sk × SS)} {D : DS} {sp : Value} {pf : Option Addr} {nf cf : Nat} {dn : Bool} {lf : Nat} {pz : Option Addr} {nz cz : Nat} {p : Option Addr} {c er : Nat} {ls : List Rw} {N : BL} {w w' : World} (hT : LT w0 M d q rm B n o D sp pf nf cf dn lf pz nz cz p c er ls N w) (h : Hd w0 M d o D ((q, 35, (d9 (pt d.q) sp rm pf nf cf dn lf pz nz cz p ls.length c er)) :: N) w') : LS w0 M d q rm B n w' :=
 ⟨o, D, sp, pf, nf, cf, dn, lf, pz, nz, cz, p, c, er, ls, N, h, hT.rd, hT.rw, hT.db, hT.dv, hT.op⟩
theorem LS.new {w : World} {d : Dk} {q rm : Nat} {w' : World} (hrm : rm ≤ 9223372036854775807) (h : DH w [] d ⟨[], rm, 0, false, []⟩ [(q, 35, (d9 (pt d.q) (.pointer none) rm none 0 0 false 0 none 0 0 none 0 0 0))] w') :
  Calls prog 9 #[pt q] w' fun e w2 => e = .returned (.bool true) ∧ LS w [] d q rm 0 4 w2 := by
 have hv := Dv.new rm;have hl := hv.lg;have hb : DB ⟨[], rm, 0, false, []⟩ (2 * 0) 0 := new_DB hrm;refine (wopen_any (N := []) h ⟨[], false, 0, [], none, 0, none, 0, rfl, Tw.start rm, .inl ⟨rfl, rfl⟩, .inl ⟨rfl, rfl⟩⟩ hb (by omega) (by omega) (by omega)).mono ?_;rintro e w2 ⟨pf, nf, cf, dn, lf, pz, nz, cz, p, c, N', he, h1, h2, h3⟩;exact ⟨he, LS.opened hv hb (by omega) ⟨pf, nf, cf, dn, lf, pz, nz, cz, p, c, N', h1, h2, h3⟩⟩
end Go.Proofs.YtckmlaempffpjaaGreat
namespace Go.Proofs.YtckmlaempffpjaaGreat
set_option linter.unusedVariables false
set_option maxRecDepth 100000
set_option maxHeartbeats 4000000
open Go.RowKit Go.Proofs.Tryz
theorem plays_any (w : World) (z : Int) (hz : -9223372036854775808 ≤ z ∧ z ≤ 9223372036854775807) (al : List Dq) (o : Option Addr) (c : Nat) (hA : DqA w o al) (hln : al.length ≤ 9223372036854775807) (hB : ∀ i, i ≤ 40 → i ≤ al.length → cstN al i ≤ 2000000) :
  Calls prog 3 #[.int .i64 z, .slice o al.length c] w fun e w' => e = .returned (.bool true) ∧ Below w.heap.size w w' := by
 have H0 := HA.start w;obtain ⟨rm, hrm⟩ : ∃ rm, rm = z.toNat := ⟨_, rfl⟩
 go_enter Tryz.func3, Tryz.ntmps3
 refine zsr (zv (znt (zsr (zv ?_))));refine wl_callx enter7 #[.int .i64 z] (New_any z H0) ?_;rintro _ w1 ⟨d, rfl, hD0⟩;refine ⟨_, rfl, ?_⟩;obtain ⟨z2, X3, hcl4, hbe5, h6⟩ := DH.front (hrm ▸ hD0 : DH w [] d ⟨[], rm, 0, false, []⟩ [] _);have h7 : HA z2 (([] ++ X3)) w1 := h6;refine zv ?_;refine wl_make (c := #[.pointer none, .pointer none, i6 0, .slice none 0 0, .bool false, i6 0, .slice none 0 0, .slice none 0 0, i6 0]) h7 35 ?_;intro q8 w9 h10;refine wl_fill (c' := (d9 (pq d.q) (.pointer none) 0 none 0 0 false 0 none 0 0 none 0 0 0)) h10 0 rfl rfl ?_;intro w11 h12;refine znt (zsr (zv ?_));refine wl_call (v := .agg (d5 rm none 0 0 false 0 none 0 0)) h12 enter8 #[.int .i64 z] (by rw [hrm]; exact rnew_any z) ?_;intro w13 h14;refine zv (zv ?_);refine wl_fillp (o := 2) (c' := (d5 rm none 0 0 false 0 none 0 0)) h14 0 rfl (show (7 : Nat) ≤ 9 by decide) (fill59 (pq d.q) (.pointer none) (i6 0) (.slice none 0 0) (.bool false) (i6 0) (.slice none 0 0) (.slice none 0 0) (i6 0) (i6 rm) (.slice none 0 0) (.bool false) (i6 0) (.slice none 0 0)) ?_;intro w15 h16;refine znt (wp_seq (zsr ?_));refine wl_callx enter9 #[pq q8] (LS.new (by omega) (hcl4 ((q8, 35, (d9 (pq d.q) (.pointer none) rm none 0 0 false 0 none 0 0 none 0 0 0)) :: []) _ h16)) ?_;rintro _ w17 ⟨rfl, hLS⟩;refine ⟨_, rfl, ?_⟩;refine zv (znt (zcf (wp_skip (zt (wp_seq (zsr (zv (wl_nil ?_))))))));generalize q8 = q at hLS ⊢;refine zt ?_;refine wp_block ?_;refine zcn (fun Z0 i AQ w' => ∃ (Bq : Nat) (u18 : Nat → Value), AQ = pts Z0 [(4, u18 4), (6, i6 i), (16, u18 16), (17, u18 17), (18, u18 18), (19, u18 19), (20, u18 20), (21, u18 21), (22, u18 22), (23, u18 23), (24, u18 24), (25, u18 25), (26, u18 26), (27, u18 27), (28, u18 28), (29, u18 29), (30, u18 30), (31, u18 31), (32, u18 32), (33, u18 33), (34, u18 34), (35, u18 35), (36, u18 36), (37, u18 37), (38, u18 38), (39, u18 39), (40, u18 40)] ∧ Bq = cstN al i ∧ LS w [] d q rm Bq (4 + 13 * i) w') (min al.length 40) ?_ ?_ ?_
 ·exact ⟨0, zey [] ⟨rfl, hLS⟩⟩
 ·rintro i hi _ w19 ⟨Bq, u18, rfl, hBq, hLS1⟩;obtain ⟨o1, D1, sp1, pf1, nf1, cf1, dn1, lf1, pz1, nz1, cz1, p1, c1, er1, ls1, N1, hT1⟩ := hLS1;obtain ⟨z1, X1, hcl1, hbe1, h1⟩ := Hd.front hT1.hd;have h20 : HA z1 ((q, 35, (d9 (pq d.q) sp1 rm pf1 nf1 cf1 dn1 lf1 pz1 nz1 cz1 p1 ls1.length c1 er1)) :: (N1 ++ X1)) w19 := h1;obtain ⟨oa, hoa, hok⟩ := hA i (by omega);have hcs := cstN_succ al i (by omega);have hB9 := hB (i + 1) (by omega) (by omega);obtain ⟨⟨kd, po, pc, ps, do_, dc, ds, af, ko, kc, ks⟩, hxe⟩ : ∃ x, x = al.getD i dq0 := ⟨_, rfl⟩;rw [← hxe] at hok hcs;refine wp_seq (zsr (zv (zv (zv ?_))));refine zwu (run_lss (k := .i64) (a := i) (b := al.length) true (dt (by omega))) ?_;refine zv (zv ?_);refine zwu (run_lss (k := .i64) (a := i) (b := 40) true (dt (by omega))) ?_;refine zv (znt (zct (wp_skip (zt (wp_seq ?_)))));refine wp_block ?_;refine zsr (zv (zv ?_));refine zwu (v := .pointer (some (oa.add (i * 5)))) (run_addrT (o := o) (a := oa) (n := al.length) (m := c) (i := i) hoa underlying22 sizeOf41 (by omega)) ?_;refine zwu (v := .agg (x5 kd po ps.length pc do_ ds.length dc af ko ks.length kc)) (run_loadT (a := oa.add (i * 5)) (c := (x5 kd po ps.length pc do_ ds.length dc af ko ks.length kc)) (fun j v hv => cell_old (hbe1 _ _ h20) (hok.cell j v hv)) underlying41 rfl) ?_;refine wl_callx enter10 #[pq q, .agg (x5 kd po ps.length pc do_ ds.length dc af ko ks.length kc)] (step_any (LS.at hT1 (hcl1 _ _ h20)) hok.inn (by rw [hBq, ← hcs]; exact hB (i + 1) (by omega) (by omega)) (by omega)) ?_;rintro _ w21 ⟨rfl, hLS2⟩;refine ⟨_, rfl, ?_⟩;obtain ⟨o2, D2, sp2, pf2, nf2, cf2, dn2, lf2, pz2, nz2, cz2, p2, c2, er2, ls2, N2, hT2⟩ := hLS2;obtain rfl := hT2.rd.tell;obtain ⟨z2, X2, hcl2, hbe2, h2⟩ := Hd.front hT2.hd;have h22 : HA z2 ((q, 35, (d9 (pq d.q) sp2 rm pf2 nf2 cf2 D2.down lf2 pz2 nz2 cz2 p2 ls2.length c2 er2)) :: (N2 ++ X2)) w21 := h2;refine zv (zv (zv ?_));refine zwu (v := pq d.q) (run_load1 isAgg23 (((h22.get 0 rfl).cell 0).trans rfl)) ?_;refine zv (zv ?_);refine zwu (v := .agg (d5 rm pf2 nf2 cf2 D2.down lf2 pz2 nz2 cz2)) (run_part (o := 2) (c' := (d5 rm pf2 nf2 cf2 D2.down lf2 pz2 nz2 cz2)) (h22.get 0 rfl) part59 underlying29 rfl) ?_;refine wl_call (v := .bool true) h22 enter11 #[pq d.q, .agg (d5 rm pf2 nf2 cf2 D2.down lf2 pz2 nz2 cz2)] (same_any (Hd.disk (hcl2 ((q, 35, (d9 (pq d.q) sp2 rm pf2 nf2 cf2 D2.down lf2 pz2 nz2 cz2 p2 ls2.length c2 er2)) :: N2) _ h22)) hT2.rd (fun y hy => h22.blk y (mc (List.mem_append_left _ hy))) hT2.db (by omega) (by omega)) ?_
  intro w23 h24;refine zv (zv (znt (zcf (wp_skip ?_))));refine block_normal ?_;refine zt (wl_region (zv ?_));refine zwu (run_add (k := .i64) (a := i) (b := 1) (by first | omega | (simp only [top]; omega))) ?_;refine zv (wl_nil ?_);exact then_I ⟨cstN al (i + 1), zey [] ⟨rfl, (by rw [hcs, ← hBq]; exact (LS.at hT2 (hcl2 _ _ h24)).mono (Nat.le_refl _) (by omega))⟩⟩
 ·rintro _ w25 ⟨Bq, u18, rfl, hBq, hLS1⟩;obtain ⟨o1, D1, sp1, pf1, nf1, cf1, dn1, lf1, pz1, nz1, cz1, p1, c1, er1, ls1, N1, hT1⟩ := hLS1;obtain ⟨z1, X1, hcl1, hbe1, h1⟩ := Hd.front hT1.hd;have h26 : HA z1 ((q, 35, (d9 (pq d.q) sp1 rm pf1 nf1 cf1 dn1 lf1 pz1 nz1 cz1 p1 ls1.length c1 er1)) :: (N1 ++ X1)) w25 := h1;refine wp_seq (wp_seq ?_)
  by_cases hgt : 40 < al.length
  ·refine wl_region (zv (zv (zv ?_)));refine zwu (run_lss (k := .i64) (a := min al.length 40) (b := al.length) true (dt (by omega))) ?_;refine zv (zv ?_);refine zwu (run_lss (k := .i64) (a := min al.length 40) (b := 40) false (df (by omega))) ?_;refine zv (znt (zcf ?_));refine wp_exit ?_
   repeat first | refine then_exit ?_ | refine block_exit ?_ | refine block_exit_ne (by decide) ?_
   refine zt (zsr ?_);refine wl_call (v := .bool true) h26 enter12 #[] (works_B w25) ?_;intro w27 h28;refine zv (znt ?_);refine wp_ret ?_
   repeat first|refine zrt ?_|refine block_ret ?_
   exact zb ⟨rfl, hbe1 _ _ h28⟩
  ·refine wl_region (zv (zv (zv ?_)));refine zwu (run_lss (k := .i64) (a := min al.length 40) (b := al.length) false (df (by omega))) ?_;refine zv ?_;refine wl_skip ?_;refine wl_skip ?_;refine zv (znt (zcf ?_));refine wp_exit ?_
   repeat first | refine then_exit ?_ | refine block_exit ?_ | refine block_exit_ne (by decide) ?_
   refine zt (zsr ?_);refine wl_call (v := .bool true) h26 enter12 #[] (works_B w25) ?_;intro w29 h30;refine zv (znt ?_);refine wp_ret ?_
   repeat first|refine zrt ?_|refine block_ret ?_
   exact zb ⟨rfl, hbe1 _ _ h30⟩
end Go.Proofs.YtckmlaempffpjaaGreat
namespace Go.Proofs.YtckmlaempffpjaaGreat
set_option maxRecDepth 100000
open Go.ChangeShapes Go.WideShapes Go.ChangeAt Go.RowKit Go.Deep
theorem ex_list {α : Type} (d : α) {P : Nat → α → Prop} : ∀ n, (∀ i, i < n → ∃ x, P i x) → ∃ l : List α, l.length = n ∧ ∀ i, i < n → P i (l.getD i d)
 | 0, _ => ⟨[], rfl, fun i hi => by omega⟩
 | n + 1, h => by
  obtain ⟨l, h1, h2⟩ := ex_list d n (fun i hi => h i (by omega));obtain ⟨x, hx⟩ := h n (by omega);refine ⟨l ++ [x], by simp [h1], fun i hi => ?_⟩
  by_cases e : i = n
  ·subst e;rw [List.getD_eq_getElem?_getD, List.getElem?_append_right (by omega), h1, Nat.sub_self];exact hx
  ·have hi' : i < l.length := by omega
   rw [List.getD_eq_getElem?_getD, List.getElem?_append_left hi', ← List.getD_eq_getElem?_getD];exact h2 i (by omega)
section
variable {H : Type}
theorem blk_one (d : DataW H) : 1 ≤ Rows.uptoBulk d := by
 cases d with
 | lit l => cases l <;> simp [Rows.uptoBulk]
 | _ => simp [Rows.uptoBulk]
theorem blk_sum {α : Type} (d : α) (g : α → Nat) (D : Nat → DataW H) : ∀ (l : List α) (k : Nat), (∀ i, i < l.length → g (l.getD i d) ≤ Rows.uptoBulk (D (k + i))) → (l.map g).sum ≤ Rows.uptoBulkAll ((List.range' k l.length).map D)
 | [], _, _ => by simp [Rows.uptoBulkAll]
 | x :: l, k, h => by
  have h0 := h 0 (by simp);have ih := blk_sum d g D l (k + 1) (fun i hi => by
   have := h (i + 1) (by simpa using hi);rw [show k + 1 + i = k + (i + 1) by omega]
   simpa using this)
  simp only [List.map_cons, List.sum_cons, List.length_cons, List.range'_succ, Rows.uptoBulkAll]
  simp only [Nat.add_zero, List.getD_cons_zero] at h0
  omega
theorem blk_slice {α : Type} (d : α) (g : α → Nat) (D : Nat → DataW H) (l : List α) (sp : List (DataW H)) (h : ∀ i, i < l.length → g (l.getD i d) ≤ Rows.uptoBulk (D i)) : (l.map g).sum + 1 ≤ Rows.uptoBulk (.slice ((List.range l.length).map D) sp) := by
 have := blk_sum d g D l 0 (fun i hi => by rw [Nat.zero_add]; exact h i hi);rw [← List.range_eq_range'] at this
 simp only [Rows.uptoBulk]
 omega
theorem sum_one : ∀ l : List Int, (l.map fun _ => 1).sum = l.length
 | [] => rfl
 | _ :: l => by rw [List.map_cons, List.sum_cons, sum_one l, List.length_cons]; omega
end
theorem cellsW3 : Tryz.prog.cellsOf 3 = 1 := by kernel_rfl
theorem cellsW9 : Tryz.prog.cellsOf 9 = 1 := by kernel_rfl
theorem cellsW64 : Tryz.prog.cellsOf 64 = 2 := by kernel_rfl
theorem cellsW41 : Tryz.prog.cellsOf 41 = 5 := by kernel_rfl
def cstS (x : Dq) : Nat := (x.ps.map fun r => r.k.size + r.v.size).sum + (x.ds.map fun r => r.size).sum
theorem take_sum {α : Type} (f : α → Nat) : ∀ (l : List α) (k : Nat), ((l.take k).map f).sum ≤ (l.map f).sum
 | [], k => by simp
 | x :: l, 0 => by simp
 | x :: l, k + 1 => by
  have := take_sum f l k
  simp only [List.take_succ_cons, List.map_cons, List.sum_cons]
  omega
theorem laid_eq : ∀ ps : List Rw, laidR ps = 8 * ps.length + (ps.map fun r => r.k.size + r.v.size).sum
 | [] => rfl
 | x :: l => by
  have := laid_eq l
  show rsz x + laidR l = _
  rw [this, List.map_cons, List.sum_cons, List.length_cons]
  unfold rsz
  omega
theorem delW_len : ∀ ds : List ByteArray, (ds.flatMap ptB).length = 4 * ds.length + (ds.map fun r => r.size).sum
 | [] => rfl
 | x :: l => by
  have := delW_len l;rw [List.flatMap_cons, List.length_append, ptB_len, this, List.map_cons, List.sum_cons, List.length_cons]
  omega
theorem body_eq (ps : List Rw) (ds : List ByteArray) : (bodyB ps ds).length = 4 + 8 * ps.length + (ps.map fun r => r.k.size + r.v.size).sum + 4 * ds.length + (ds.map fun r => r.size).sum := by
 unfold bodyB
 simp only [List.length_append, Wi.be_length, rows_len, delW_len, laid_eq]
 omega
theorem frm_eq (ps : List Rw) (ds : List ByteArray) : (frmB ps ds).size = 4 + (bodyB ps ds).length := by
 show (frameB ps ds).toArray.size = _
 unfold frameB
 simp only [List.size_toArray, List.length_append, Wi.be_length]
theorem fst_le (ps : List Rw) (ds : List ByteArray) : (fstK ps ds).size ≤ (ps.map fun r => r.k.size + r.v.size).sum + (ds.map fun r => r.size).sum := by
 cases ps with
 | cons x l =>
  rw [fst_p (x := x) rfl, List.map_cons, List.sum_cons]
  omega
 | nil =>
  cases ds with
  | cons y l =>
   rw [fst_d (y := y) rfl rfl, List.map_cons, List.sum_cons]
   omega
  | nil =>
   rw [fst_n rfl rfl];exact Nat.zero_le _
theorem in_mk {W : World} {x : Dq} (hp : RowsAt W x.po x.ps) (hd : KeysAt W x.do_ x.ds) (hk : ∀ j, j < x.ks.length → ∃ a, x.ko = some a ∧ W.cell? (a.add j) = some (.int .i64 (x.ks.getD j 0))) (h1 : x.ps.length ≤ x.pc) (h2 : x.ds.length ≤ x.dc) (h3 : x.ks.length ≤ 1000000000) (h4 : x.af ≤ 9223372036854775807) (h5 : cstS x ≤ 1100000) :
  DoIn W x.po x.pc x.ps x.do_ x.dc x.ds x.af x.ko x.ks (cstD x) := by
 have t1 := take_sum (fun r : Rw => r.k.size + r.v.size) x.ps 70;have t2 := take_sum (fun r : ByteArray => r.size) x.ds 70;have l1 : (x.ps.take 70).length ≤ 70 := by rw [List.length_take]; omega
 have l2 : (x.ds.take 70).length ≤ 70 := by rw [List.length_take]; omega
 have hb := body_eq (x.ps.take 70) (x.ds.take 70);have hf := frm_eq (x.ps.take 70) (x.ds.take 70);have hk1 := fst_le x.ps x.ds
 unfold cstS at h5
 refine ⟨hp, hd, hk, h1, h2, h3, h4, ?_, by omega, ?_⟩
 ·unfold cstD
  omega
 ·unfold cstD
  omega
section
variable {H : Type} {enc : TypeId × Value → H} {W : World}
theorem openW27 {n : Nat} {cs : List Value} {x : DataW H × List MemPlace} (h : DataW.trod enc Tryz.prog W 0 (fun _ => true) true n 27 cs = some x) :
  ∃ (o : Option Addr) (ks : List Int) (c : Nat), cs = [.slice o ks.length c] ∧ ks.length ≤ Rows.uptoBulk x.1 ∧ ∀ j, j < ks.length → ∃ a, o = some a ∧ W.cell? (a.add j) = some (.int .i64 (ks.getD j 0)) := by
 rcases open_slice Tryz.underlying27 h with ⟨rfl, _⟩ | ⟨a, len, cap, m, k, D, Pl, rfl, _, hl, hm, hmm, rfl, hx⟩
 ·exact ⟨none, [], 0, rfl, Nat.zero_le _, fun i hi => by simp at hi⟩
 ·have hmc : m = cap := by rw [hmm]; rfl
  rw [cellsW3] at hx;obtain ⟨ks, h1, h2⟩ := ex_list (0 : Int) (P := fun i (z : Int) => W.cell? (a.add i) = some (.int .i64 z)) len (fun i hi => by
   obtain ⟨cs', hc, ht⟩ := hx i (by omega);obtain ⟨_, hlen, hcell⟩ := World.cells?_some hc
   match cs', hlen with
   | [v0], _ =>
    have e0 := hcell 0 (by omega);obtain ⟨z, hz, _⟩ := DataW.trod_int Tryz.underlying3 ht
    cases hz
    refine ⟨z, ?_⟩;rw [Nat.mul_one] at e0;rw [show (a.add i).add 0 = a.add i by simp [Addr.add]] at e0
    simpa using e0)
  subst h1;refine ⟨some a, ks, cap, rfl, ?_, fun i hi => ⟨a, rfl, h2 i hi⟩⟩;have := blk_slice (0 : Int) (fun _ => 1) D ks ((List.range (m - ks.length)).map fun j => D (ks.length + j)) (fun i _ => blk_one _);rw [sum_one] at this
  show _ ≤ Rows.uptoBulk (DataW.slice _ _)
  omega
theorem openW39 {n : Nat} {cs : List Value} {x : DataW H × List MemPlace} (h : DataW.trod enc Tryz.prog W 0 (fun _ => true) true n 39 cs = some x) :
  ∃ (o : Option Addr) (ds : List ByteArray) (c : Nat), cs = [.slice o ds.length c] ∧ ds.length ≤ c ∧ (ds.map fun r => r.size).sum ≤ Rows.uptoBulk x.1 ∧ KeysAt W o ds := by
 rcases open_slice Tryz.underlying39 h with ⟨rfl, _⟩ | ⟨a, len, cap, m, k, D, Pl, rfl, _, hl, hm, hmm, rfl, hx⟩
 ·exact ⟨none, [], 0, rfl, Nat.le_refl _, Nat.zero_le _, fun i x hi => by simp at hi⟩
 ·have hmc : m = cap := by rw [hmm]; rfl
  rw [cellsW9] at hx;obtain ⟨ds, h1, h2⟩ := ex_list ByteArray.empty (P := fun i (s : ByteArray) => W.cell? (a.add i) = some (.string s) ∧ s.size ≤ Rows.uptoBulk (D i)) len (fun i hi => by
   obtain ⟨cs', hc, ht⟩ := hx i (by omega);obtain ⟨_, hlen, hcell⟩ := World.cells?_some hc
   match cs', hlen with
   | [v0], _ =>
    have e0 := hcell 0 (by omega);obtain ⟨s, hs, hd, _⟩ := DataW.trod_string Tryz.underlying9 ht
    cases hs
    refine ⟨s, ?_, ?_⟩
    ·rw [Nat.mul_one] at e0;rw [show (a.add i).add 0 = a.add i by simp [Addr.add]] at e0
     simpa using e0
    ·have hd1 : D i = .lit (.string s.data.toList) := (Prod.mk.inj hd).1;rw [hd1]
     simp only [Rows.uptoBulk, Array.length_toList]
     exact Nat.le_succ _)
  subst h1;refine ⟨some a, ds, cap, rfl, hl, ?_, fun i x hi => ⟨a, rfl, ?_⟩⟩
  ·have := blk_slice ByteArray.empty (fun r => r.size) D ds ((List.range (m - ds.length)).map fun j => D (ds.length + j)) (fun i hi => (h2 i hi).2)
   show _ ≤ Rows.uptoBulk (DataW.slice _ _)
   omega
  ·have hi' := (List.getElem?_eq_some_iff.1 hi).1;have := (h2 i hi').1;rw [List.getD_eq_getElem?_getD, hi] at this;exact this
theorem openW64 {n : Nat} {a : Addr} {cs : List Value} {x : DataW H × List MemPlace} (hc : W.cells? 0 a 2 = some cs) (h : DataW.trod enc Tryz.prog W 0 (fun _ => true) true n 64 cs = some x) :
  ∃ p : Rw, W.cell? a = some (.string p.k) ∧ W.cell? (a.add 1) = some (.string p.v) ∧ p.k.size + p.v.size ≤ Rows.uptoBulk x.1 := by
 obtain ⟨_, hlen, hcell⟩ := World.cells?_some hc;obtain ⟨xs, k, _, hx, _, hxl, hf⟩ := DataW.trod_struct Tryz.underlying64 h
 match cs, hlen with
 | [v0, v1], _ =>
  have e0 := hcell 0 (by omega);have e1 := hcell 1 (by omega)
  match xs, hxl with
  | [y0, y1], _ =>
   have g0 : DataW.trod enc Tryz.prog W 0 (fun _ => true) true k 9 [v0] = some y0 := hf 0 _ rfl;have g1 : DataW.trod enc Tryz.prog W 0 (fun _ => true) true k 9 [v1] = some y1 := hf 1 _ rfl;obtain ⟨s, hs, hd, _⟩ := DataW.trod_string Tryz.underlying9 g0;obtain ⟨s2, hs2, hd2, _⟩ := DataW.trod_string Tryz.underlying9 g1
   cases hs
   cases hs2
   subst hd;subst hd2;subst hx;refine ⟨⟨s, s2⟩, ?_, by simpa using e1, ?_⟩
   ·rw [show a.add 0 = a by simp [Addr.add]] at e0
    simpa using e0
   ·simp only [List.map_cons, List.map_nil, Rows.uptoBulk, Rows.uptoBulkAll, Array.length_toList]
    show s.data.size + s2.data.size ≤ _
    omega
theorem openW30 {n : Nat} {cs : List Value} {x : DataW H × List MemPlace} (h : DataW.trod enc Tryz.prog W 0 (fun _ => true) true n 30 cs = some x) :
  ∃ (o : Option Addr) (ps : List Rw) (c : Nat), cs = [.slice o ps.length c] ∧ ps.length ≤ c ∧ (ps.map fun r => r.k.size + r.v.size).sum ≤ Rows.uptoBulk x.1 ∧ RowsAt W o ps := by
 rcases open_slice Tryz.underlying30 h with ⟨rfl, _⟩ | ⟨a, len, cap, m, k, D, Pl, rfl, _, hl, hm, hmm, rfl, hx⟩
 ·exact ⟨none, [], 0, rfl, Nat.le_refl _, Nat.zero_le _, fun i x hi => by simp at hi⟩
 ·have hmc : m = cap := by rw [hmm]; rfl
  rw [cellsW64] at hx;obtain ⟨ps, h1, h2⟩ := ex_list (⟨ByteArray.empty, ByteArray.empty⟩ : Rw) (P := fun i (p : Rw) => W.cell? (a.add (i * 2)) = some (.string p.k) ∧ W.cell? (a.add (i * 2 + 1)) = some (.string p.v) ∧ p.k.size + p.v.size ≤ Rows.uptoBulk (D i)) len (fun i hi => by
   obtain ⟨cs', hc, ht⟩ := hx i (by omega);obtain ⟨p, p1, p2, p3⟩ := openW64 hc ht;rw [aadd] at p2;exact ⟨p, p1, p2, p3⟩)
  subst h1;refine ⟨some a, ps, cap, rfl, hl, ?_, fun i x hi => ⟨a, rfl, ?_⟩⟩
  ·have := blk_slice (⟨ByteArray.empty, ByteArray.empty⟩ : Rw) (fun r => r.k.size + r.v.size) D ps ((List.range (m - ps.length)).map fun j => D (ps.length + j)) (fun i hi => (h2 i hi).2.2)
   show _ ≤ Rows.uptoBulk (DataW.slice _ _)
   omega
  ·have hi' := (List.getElem?_eq_some_iff.1 hi).1;have := h2 i hi';rw [List.getD_eq_getElem?_getD, hi] at this;exact ⟨this.1, this.2.1⟩
theorem openW41 {n : Nat} {a : Addr} {cs : List Value} {x : DataW H × List MemPlace} (hb : Rows.uptoBulk x.1 ≤ 1048576) (hc : W.cells? 0 a 5 = some cs) (h : DataW.trod enc Tryz.prog W 0 (fun _ => true) true n 41 cs = some x) :
  ∃ p : Dq, DqOk W a p ∧ cstS p ≤ Rows.uptoBulk x.1 := by
 obtain ⟨_, hlen, hcell⟩ := World.cells?_some hc;obtain ⟨xs, k, _, hx, _, hxl, hf⟩ := DataW.trod_struct Tryz.underlying41 h
 match cs, hlen with
 | [v0, v1, v2, v3, v4], _ =>
  have e0 := hcell 0 (by omega);have e1 := hcell 1 (by omega);have e2 := hcell 2 (by omega);have e3 := hcell 3 (by omega);have e4 := hcell 4 (by omega)
  match xs, hxl with
  | [y0, y1, y2, y3, y4], _ =>
   have g0 : DataW.trod enc Tryz.prog W 0 (fun _ => true) true k 3 [v0] = some y0 := hf 0 _ rfl;have g1 : DataW.trod enc Tryz.prog W 0 (fun _ => true) true k 30 [v1] = some y1 := hf 1 _ rfl;have g2 : DataW.trod enc Tryz.prog W 0 (fun _ => true) true k 39 [v2] = some y2 := hf 2 _ rfl;have g3 : DataW.trod enc Tryz.prog W 0 (fun _ => true) true k 3 [v3] = some y3 := hf 3 _ rfl;have g4 : DataW.trod enc Tryz.prog W 0 (fun _ => true) true k 27 [v4] = some y4 := hf 4 _ rfl;obtain ⟨z, hz, _⟩ := DataW.trod_int Tryz.underlying3 g0;obtain ⟨z3, hz3, _, hw3⟩ := DataW.trod_int Tryz.underlying3 g3;obtain ⟨po, ps, pc, hv1, hp1, hp2, hp3⟩ := openW30 g1;obtain ⟨do_, ds, dc, hv2, hd1, hd2, hd3⟩ := openW39 g2;obtain ⟨ko, ks, kc, hv4, hk1, hk2⟩ := openW27 g4
   cases hz
   cases hz3
   cases hv1
   cases hv2
   cases hv4
   subst hx;have hbl : Rows.uptoBulk (DataW.agg [y0.1, y1.1, y2.1, y3.1, y4.1]) = Rows.uptoBulk y0.1 + (Rows.uptoBulk y1.1 + (Rows.uptoBulk y2.1 + (Rows.uptoBulk y3.1 + (Rows.uptoBulk y4.1 + 0)))) + 1 := by simp only [Rows.uptoBulk, Rows.uptoBulkAll]
   have hbl2 : Rows.uptoBulk (DataW.agg ([y0, y1, y2, y3, y4].map (·.1)), [y0, y1, y2, y3, y4].flatMap (·.2)).1 = _ := hbl;rw [hbl2] at hb ⊢;have hcs : cstS ⟨z, po, pc, ps, do_, dc, ds, z3, ko, kc, ks⟩ ≤ Rows.uptoBulk y1.1 + Rows.uptoBulk y2.1 := Nat.add_le_add hp2 hd2;have h4 : -9223372036854775808 ≤ z3 ∧ z3 ≤ 9223372036854775807 := by simpa [Lit.wf, IntKind.min, IntKind.max, IntKind.signed, IntKind.bits] using hw3
   refine ⟨⟨z, po, pc, ps, do_, dc, ds, z3, ko, kc, ks⟩, ⟨fun j v hj => ?_, in_mk hp3 hd3 hk2 hp1 hd1 (by show ks.length ≤ _; omega) h4.2 (by omega)⟩, by omega⟩
   match j, hj with
   | 0, hj => exact e0.trans hj
   | 1, hj => exact e1.trans hj
   | 2, hj => exact e2.trans hj
   | 3, hj => exact e3.trans hj
   | 4, hj => exact e4.trans hj
theorem cstN_le (al : List Dq) (i : Nat) : cstN al i ≤ 900 * i + (al.map cstS).sum := by
 have h : ∀ l : List Dq, (l.map cstD).sum = 900 * l.length + (l.map cstS).sum := by
  intro l
  induction l with
  | nil => rfl
  | cons x l ih =>
   have hx : cstD x = 900 + cstS x := by unfold cstD cstS; omega
   rw [List.map_cons, List.sum_cons, ih, List.map_cons, List.sum_cons, List.length_cons, hx]
   omega
 have h1 := take_sum cstS al i;have h2 : (al.take i).length ≤ i := by rw [List.length_take]; omega
 unfold cstN
 rw [h]
 omega
theorem openW22 {n : Nat} {cs : List Value} {x : DataW H × List MemPlace} (hb : Rows.uptoBulk x.1 ≤ 1048576) (h : DataW.trod enc Tryz.prog W 0 (fun _ => true) true n 22 cs = some x) :
  ∃ (o : Option Addr) (al : List Dq) (c : Nat), cs = [.slice o al.length c] ∧ al.length ≤ 9223372036854775807 ∧ DqA W o al ∧ ∀ i, i ≤ 40 → i ≤ al.length → cstN al i ≤ 2000000 := by
 rcases open_slice Tryz.underlying22 h with ⟨rfl, _⟩ | ⟨a, len, cap, m, k, D, Pl, rfl, _, hl, hm, hmm, rfl, hx⟩
 ·exact ⟨none, [], 0, rfl, by simp, fun i hi => by simp at hi, fun i _ _ => by simp [cstN]⟩
 ·have hmc : m = cap := by rw [hmm]; rfl
  rw [cellsW41] at hx;have hbD : ∀ i, i < len → Rows.uptoBulk (D i) ≤ 1048576 := fun i hi => by
   have hs := blk_slice 0 (fun j => Rows.uptoBulk (D j)) D (List.range len) ((List.range (m - len)).map fun j => D (len + j)) (fun j hj => by
    rw [List.length_range] at hj;rw [List.getD_eq_getElem?_getD, List.getElem?_range hj];exact Nat.le_refl _)
   rw [List.length_range] at hs;have hm2 : ∀ (l : List Nat), i ∈ l → Rows.uptoBulk (D i) ≤ (l.map fun j => Rows.uptoBulk (D j)).sum := by
    intro l
    induction l with
    | nil => intro h; cases h
    | cons y l ih =>
     intro h;rw [List.map_cons, List.sum_cons]
     rcases List.mem_cons.1 h with rfl | h
     ·omega
     ·have := ih h
      omega
   have h3 := hm2 (List.range len) (List.mem_range.2 hi);have hb' : Rows.uptoBulk (DataW.slice ((List.range len).map D) ((List.range (m - len)).map fun j => D (len + j))) ≤ 1048576 := hb
   omega
  obtain ⟨al, h1, h2⟩ := ex_list dq0 (P := fun i (p : Dq) => DqOk W (a.add (i * 5)) p ∧ cstS p ≤ Rows.uptoBulk (D i)) len (fun i hi => by
   obtain ⟨cs', hc, ht⟩ := hx i (by omega);exact openW41 (hbD i hi) hc ht)
  subst h1;refine ⟨some a, al, cap, rfl, Nat.le_trans hl hm, fun i hi => ⟨a, rfl, (h2 i hi).1⟩, fun i hi _ => ?_⟩;have hs := blk_slice dq0 cstS D al ((List.range (m - al.length)).map fun j => D (al.length + j)) (fun i hi => (h2 i hi).2);have hc := cstN_le al i;have hb' : Rows.uptoBulk (DataW.slice ((List.range al.length).map D) ((List.range (m - al.length)).map fun j => D (al.length + j))) ≤ 1048576 := hb
  omega
theorem openDq {r : Reach} {base : Nat} {v : Value} {d : DataW H} {p : List MemPlace} (hb : Rows.uptoBulk d ≤ 1048576) (hv : Value.okWide Tryz.prog W r base 22 v) (h : DataW.Trod enc Tryz.prog W 0 (fun _ => true) true 22 v d p) :
  ∃ (o : Option Addr) (al : List Dq) (c : Nat), v = .slice o al.length c ∧ al.length ≤ 9223372036854775807 ∧ DqA W o al ∧ ∀ i, i ≤ 40 → i ≤ al.length → cstN al i ≤ 2000000 := by
 obtain ⟨a0, len, cap, rfl⟩ := okWide_slice Tryz.underlying22 hv;obtain ⟨fuel, hf⟩ := h;obtain ⟨o, al, c, h1, h2⟩ := openW22 hb hf;have e : Value.slice a0 len cap = .slice o al.length c := by simpa [Value.cells] using h1
 exact ⟨o, al, c, e, h2⟩
end
end Go.Proofs.YtckmlaempffpjaaGreat
