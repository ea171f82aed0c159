/-
 The reference's find, Free, Read, Synced.
-/
import Derived.Test.YtckmlaempffpjaaGreatGSI
namespace Go.Proofs.YtckmlaempffpjaaGreat
set_option linter.unusedVariables false
set_option maxRecDepth 100000
set_option maxHeartbeats 2000000
open Go.RowKit Go.Proofs.Tryz
def geN (a b : ByteArray) : Bool := !Op.bytesLess a.toList b.toList
section
variable {ρ : Operand → Value} {x y : Operand} {w : World} {dst : Option Tmp} {T T2 ty : TypeId} {pos : String} {aft : Array Edge} {gd : Option (Nat × Bool)}
theorem run_ges {s t : ByteArray} (hx : ρ x = .string s) (hy : ρ y = .string t) (r : Bool) (hr : geN s t = r) : (execOp ρ ⟨dst, .binOp .geq T x y T2, ty, pos, aft, gd⟩).run prog w = .ok (.value (.bool r)) w := by
 subst hr
 simp only [execOp, hx, hy]
 simp [binOp, go_sem, Op.stringOp, geN]
theorem run_addr75p {p : Option Addr} {q n m a : Nat} (hp : p = some ⟨q, 0, none⟩)   (ha : a < n) (hx : ρ x = .slice p n m := by kernel_rfl) (hy : ρ y = i6 a := by kernel_rfl) : (execOp ρ ⟨dst, .indexAddr 26 x y, ty, pos, aft, gd⟩).run prog w = .ok (.value (.pointer (some ⟨q, 3 * a, none⟩))) w := by
 subst hp;exact run_addr75 hx hy ha
end
def findR : List RF → ByteArray → Nat × Bool
 | [], _ => (0, false)
 | f :: fs, s => if geN f.nm s = true then (0, decide (f.nm = s)) else ((findR fs s).1 + 1, (findR fs s).2)
theorem findR_at {s : ByteArray} {f : RF} : ∀ {fs : List RF} {i : Nat}, (∀ (j : Nat) g, j < i → fs[j]? = some g → geN g.nm s = false) → fs[i]? = some f → geN f.nm s = true → findR fs s = (i, decide (f.nm = s))
 | [], _, _, h, _ => by simp at h
 | g :: fs, 0, _, h, hg => by
  have : g = f := by simpa using h
  subst this;rw [findR, if_pos hg]
 | g :: fs, i + 1, hp, h, hg => by
  have h0 := hp 0 g (by omega) rfl;have ih := findR_at (fs := fs) (i := i) (fun j g' hj hg' => hp (j + 1) g' (by omega) (by simpa using hg')) (by simpa using h) hg;rw [findR, if_neg (by rw [h0]; decide), ih]
theorem findR_end {s : ByteArray} : ∀ {fs : List RF}, (∀ (j : Nat) g, j < fs.length → fs[j]? = some g → geN g.nm s = false) → findR fs s = (fs.length, false)
 | [], _ => rfl
 | g :: fs, hp => by
  have h0 := hp 0 g (by simp) rfl;have ih := findR_end (fs := fs) (fun j g' hj hg' => hp (j + 1) g' (by simpa using hj) (by simpa using hg'));rw [findR, if_neg (by rw [h0]; decide), ih]; rfl
theorem pre_nextF {s : ByteArray} {fs : List RF} {i : Nat} {f : RF} (h : ∀ (j : Nat) g, j < i → fs[j]? = some g → geN g.nm s = false) (hf : fs[i]? = some f) (h1 : geN f.nm s = false) : ∀ (j : Nat) g, j < i + 1 → fs[j]? = some g → geN g.nm s = false := fun j g hj hg => by
 rcases Nat.lt_succ_iff_lt_or_eq.1 hj with h2 | h2
 ·exact h j g h2 hg
 ·subst h2; rw [hf] at hg; cases hg; exact h1
theorem rfind_any {w : World} {rm lf nz cz cf : Nat} {pf pz : Option Addr} {fs : List RF} {N : BL} (hF : RFL (.slice pf fs.length cf) fs N) (hS : Stand w N) (hfl : fs.length ≤ 100000) {dn : Bool} (s : ByteArray) :
  Calls prog 80 #[.agg (d5 rm pf fs.length cf dn lf pz nz cz), .string s] w fun e w' => e = .returned (.tuple #[i6 (findR fs s).1, .bool (findR fs s).2]) ∧ Below w.heap.size w w' := by
 have H0 := HA.start w
 go_enter Tryz.func80, Tryz.ntmps80
 refine zsr ?_;refine wl_make (c := (d5 rm pf fs.length cf dn lf pz nz cz)) H0 29 ?_;intro q1 w2 h3;refine zv (zv (znt (wp_seq (zsr (zv (znt ?_))))));refine wp_block ?_;refine zcn (fun Z0 i A w' => ∃ u4 : Nat → Value, A = pts Z0 [(4, u4 4), (5, u4 5), (6, i6 i), (7, u4 7), (8, u4 8), (9, u4 9), (10, u4 10), (11, u4 11), (12, u4 12), (13, u4 13), (14, u4 14), (15, u4 15), (16, u4 16), (17, u4 17), (18, u4 18), (19, u4 19), (20, u4 20), (21, u4 21), (22, u4 22), (23, u4 23), (24, u4 24), (25, u4 25), (26, u4 26), (27, u4 27), (28, u4 28), (29, u4 29), (30, u4 30)] ∧ HA (bs w) [(q1, 29, (d5 rm pf fs.length cf dn lf pz nz cz))] w' ∧ (∀ (j : Nat) g, j < i → fs[j]? = some g → geN g.nm s = false)) fs.length ?_ ?_ ?_
 ·exact zey [] ⟨h3, (fun j g hj => absurd hj (Nat.not_lt_zero j))⟩
 ·rintro i hi _ w5 ⟨u4, rfl, h6, hpre⟩;refine wp_seq (zsr (zv (zv ?_)));refine zwu (v := .slice pf fs.length cf) (run_load1 isAgg26 (((h6.get 0 rfl).cell 1).trans rfl)) ?_;refine zv ?_;refine zwu (run_lss (k := .i64) (a := i) (b := fs.length) true (dt (by omega))) ?_;refine znt (zct (wp_skip (zt (wp_seq ?_))));refine wp_block ?_;refine wp_seq ?_;obtain ⟨f, hf⟩ : ∃ f, fs[i]? = some f := ⟨_, List.getElem?_eq_getElem hi⟩;obtain ⟨gF, curF, hpF, _, hgF, c0, c1, c2⟩ := hF.at hf
  rcases hge : geN f.nm s with _ | _
  ·refine wl_region (zv ?_);refine zwu (v := .slice pf fs.length cf) (run_load1 isAgg26 (((h6.get 0 rfl).cell 1).trans rfl)) ?_;refine zv ?_;refine zwu (v := .pointer (some ⟨gF, 3 * i, none⟩)) (run_addr75p (q := gF) (n := fs.length) (m := cf) (a := i) hpF (List.getElem?_eq_some_iff.1 hf).1) ?_;refine zv ?_;refine zwu (v := .string f.nm) (run_load1 isAgg9 ((((hS.keep h6.old.old) _ hgF).cell (3 * i)).trans c0)) ?_;refine zv ?_;refine zwu (run_ges (s := f.nm) (t := s) (by kernel_rfl) (by kernel_rfl) false hge) ?_;refine znt (zcf (wp_skip ?_));refine block_normal ?_;refine zt (wl_region (zv ?_));refine zwu (run_add (k := .i64) (a := i) (b := 1) (by first | omega | (simp only [top]; omega))) ?_;refine zv (wl_nil ?_);exact then_I (zey [] ⟨h6, (pre_nextF hpre hf hge)⟩)
  ·refine wl_region (zv ?_);refine zwu (v := .slice pf fs.length cf) (run_load1 isAgg26 (((h6.get 0 rfl).cell 1).trans rfl)) ?_;refine zv ?_;refine zwu (v := .pointer (some ⟨gF, 3 * i, none⟩)) (run_addr75p (q := gF) (n := fs.length) (m := cf) (a := i) hpF (List.getElem?_eq_some_iff.1 hf).1) ?_;refine zv ?_;refine zwu (v := .string f.nm) (run_load1 isAgg9 ((((hS.keep h6.old.old) _ hgF).cell (3 * i)).trans c0)) ?_;refine zv ?_;refine zwu (run_ges (s := f.nm) (t := s) (by kernel_rfl) (by kernel_rfl) true hge) ?_;refine znt (zct (wp_seq ?_));refine zxr (HA (bs w) [(q1, 29, (d5 rm pf fs.length cf dn lf pz nz cz))]) (fun Z0 AQ w' => AQ = pts Z0 [(4, i6 i), (5, .bool (decide (f.nm = s))), (22, i6 i), (23, .pointer (some ⟨q1, 1, none⟩)), (24, .slice pf fs.length cf), (25, i6 i), (26, .pointer (some ⟨gF, 3 * i, none⟩)), (27, .pointer (some ⟨gF, 3 * i, none⟩)), (28, .string f.nm), (29, .string s), (30, .bool (decide (f.nm = s)))] ∧ HA (bs w) [(q1, 29, (d5 rm pf fs.length cf dn lf pz nz cz))] w') 11 (h6.drew.sub (sc (sr))) ?_ ?_
   ·have h7 := h6.drew;refine zxp 0 rfl ?_;refine zxp 1 rfl ?_;refine wx_val (i := 2) (.slice pf fs.length cf) rfl rfl (fun w' h' => run_load1 isAgg26 (((h'.get 0 rfl).cell 1).trans rfl)) ?_;refine zxp 3 rfl ?_;refine wx_pure (i := 4) (.pointer (some ⟨gF, 3 * i, none⟩)) rfl rfl (hr := (fun _ => (run_addr75p (q := gF) (n := fs.length) (m := cf) (a := i) hpF (List.getElem?_eq_some_iff.1 hf).1))) ?_;refine zxp 5 rfl ?_;refine wx_val (i := 6) (.string f.nm) rfl rfl (fun w' h' => run_load1 isAgg9 ((((hS.keep h'.old.old) _ hgF).cell (3 * i)).trans c0)) ?_;refine zxp 7 rfl ?_;refine wx_pure (i := 8) (.bool (decide (f.nm = s))) rfl rfl (hr := (fun _ => (run_eqs (s := f.nm) (t := s) _ rfl))) ?_;refine zxp 9 rfl ?_;refine zxp 10 rfl ?_;refine wx_end fun w8 hbx _ => ?_
    have h9 := HA.keep _ _ h7 hbx;exact ⟨by kernel_rfl, h9⟩
   ·rintro _ w10 ⟨rfl, h11⟩;refine zt ?_;refine wp_ret ?_
    repeat first|refine zrt ?_|refine block_ret ?_
    exact zb (v := .tuple #[i6 i, .bool (decide (f.nm = s))]) ⟨by rw [findR_at hpre hf hge], h11.old.old⟩
 ·rintro _ w12 ⟨u4, rfl, h13, hpre⟩;refine wp_seq (zsr (zv (zv ?_)));refine zwu (v := .slice pf fs.length cf) (run_load1 isAgg26 (((h13.get 0 rfl).cell 1).trans rfl)) ?_;refine zv ?_;refine zwu (run_lss (k := .i64) (a := fs.length) (b := fs.length) false (df (by omega))) ?_;refine znt (zcf ?_);refine wp_exit ?_
  repeat first | refine then_exit ?_ | refine block_exit ?_ | refine block_exit_ne (by decide) ?_
  refine zt (zsr (zv ?_));refine zwu (v := .slice pf fs.length cf) (run_load1 isAgg26 (((h13.get 0 rfl).cell 1).trans rfl)) ?_;refine zv (zv (zv (znt ?_)));refine wp_ret ?_
  repeat first|refine zrt ?_|refine block_ret ?_
  exact zb (v := .tuple #[i6 fs.length, .bool false]) ⟨by rw [findR_end hpre], h13.old.old⟩
def sumB (fs : List RF) (k : Nat) : Nat := ((fs.take k).map fun f => f.b.size).sum
theorem sumB_succ {fs : List RF} {i : Nat} {f : RF} (h : fs[i]? = some f) : sumB fs (i + 1) = sumB fs i + f.b.size := by
 unfold sumB
 rw [List.take_add_one, h]
 simp
theorem sumB_mono {fs : List RF} : ∀ {i j : Nat}, i ≤ j → sumB fs i ≤ sumB fs j := fun {i j} h => by
 unfold sumB
 have : fs.take i = (fs.take j).take i := by rw [List.take_take, Nat.min_eq_left h]
 rw [this];generalize fs.take j = l
 conv => rhs; rw [← List.take_append_drop i l]
 rw [List.map_append, List.sum_append]
 omega
theorem findR_yes {s : ByteArray} : ∀ {fs : List RF} {i : Nat}, findR fs s = (i, true) → ∃ f, fs[i]? = some f ∧ f.nm = s
 | [], _, h => by cases h
 | f :: fs, i, h => by
  rw [findR] at h
  split at h
  ·have e2 : decide (f.nm = s) = true := congrArg Prod.snd h;have e1 : 0 = i := congrArg Prod.fst h;subst e1;exact ⟨f, rfl, of_decide_eq_true e2⟩
  ·have e2 : (findR fs s).2 = true := congrArg Prod.snd h;have e1 : (findR fs s).1 + 1 = i := congrArg Prod.fst h;obtain ⟨g, h1, h2⟩ := findR_yes (fs := fs) (i := (findR fs s).1) (Prod.ext rfl e2);exact ⟨g, by rw [← e1]; simpa using h1, h2⟩
theorem rfree_u {w : World} {rm lf nz cz cf : Nat} {pf pz : Option Addr} {fs : List RF} {N : BL} (hF : RFL (.slice pf fs.length cf) fs N) (hS : Stand w N) (hfl : fs.length ≤ 100000) (hsm : sumB fs fs.length ≤ rm) (hrm : rm ≤ 9223372036854775807) :
  Calls prog 79 #[.agg (d5 rm pf fs.length cf false lf pz nz cz)] w fun e w' => e = .returned (i6 (rm - sumB fs fs.length)) ∧ Below w.heap.size w w' := by
 have H0 := HA.start w
 go_enter Tryz.func79, Tryz.ntmps79
 refine zsr ?_;refine wl_make (c := (d5 rm pf fs.length cf false lf pz nz cz)) H0 29 ?_;intro q1 w2 h3;refine zv (znt (wp_seq (zsr (zv ?_))));refine zwu (v := .bool false) (run_load1 isAgg4 (((h3.get 0 rfl).cell 2).trans rfl)) ?_;refine znt (zcf (wp_skip (zt (zsr (zv ?_)))));refine zwu (v := i6 rm) (run_load1 isAgg3 (((h3.get 0 rfl).cell 0).trans rfl)) ?_;refine zv (znt (wp_seq (zsr (zv (znt ?_)))));refine wp_block ?_;refine zcn (fun Z0 i A w' => ∃ u4 : Nat → Value, A = pts Z0 [(3, i6 (rm - sumB fs i)), (4, i6 i), (9, u4 9), (10, u4 10), (11, u4 11), (12, u4 12), (13, u4 13), (14, u4 14), (15, u4 15), (16, u4 16), (17, u4 17), (18, u4 18), (19, u4 19), (20, u4 20), (21, u4 21), (22, u4 22), (23, u4 23), (24, u4 24)] ∧ HA (bs w) [(q1, 29, (d5 rm pf fs.length cf false lf pz nz cz))] w' ∧ True) fs.length ?_ ?_ ?_
 ·exact zey [] ⟨h3, trivial⟩
 ·rintro i hi _ w5 ⟨u4, rfl, h6, _hp⟩;refine wp_seq (zsr (zv (zv ?_)));refine zwu (v := .slice pf fs.length cf) (run_load1 isAgg26 (((h6.get 0 rfl).cell 1).trans rfl)) ?_;refine zv ?_;refine zwu (run_lss (k := .i64) (a := i) (b := fs.length) true (dt (by omega))) ?_;refine znt (zct (wp_skip (zt (wp_seq ?_))));refine wp_block ?_;obtain ⟨f, hf⟩ : ∃ f, fs[i]? = some f := ⟨_, List.getElem?_eq_getElem hi⟩;obtain ⟨gF, curF, hpF, _, hgF, c0, c1, c2⟩ := hF.at hf;have hsu := sumB_mono (fs := fs) (i := i + 1) (j := fs.length) hi;rw [sumB_succ hf] at hsu;refine wl_region (zv (zv ?_));refine zwu (v := .slice pf fs.length cf) (run_load1 isAgg26 (((h6.get 0 rfl).cell 1).trans rfl)) ?_;refine zv ?_;refine zwu (v := .pointer (some ⟨gF, 3 * i, none⟩)) (run_addr75p (q := gF) (n := fs.length) (m := cf) (a := i) hpF (List.getElem?_eq_some_iff.1 hf).1) ?_;refine zv ?_;refine zwu (v := .string f.b) (run_load1 isAgg9 ((((hS.keep h6.old.old) _ hgF).cell (3 * i + 1)).trans c1)) ?_;refine zwu (run_len (s := f.b)) ?_;refine zwu (v := i6 ((rm - sumB fs i) - f.b.size)) (run_sub (k := .i64) (a := rm - sumB fs i) (b := f.b.size) (by first | omega | (simp only [top]; omega)) (by first | omega | (simp only [top]; omega))) ?_;refine zv (wl_nil ?_);refine block_normal ?_;refine zt (wl_region (zv ?_));refine zwu (run_add (k := .i64) (a := i) (b := 1) (by first | omega | (simp only [top]; omega))) ?_;refine zv (wl_nil ?_);exact then_I ⟨lku (fun _ => undef) [(9, i6 i), (10, .pointer (some ⟨q1, 1, none⟩)), (11, .slice pf fs.length cf), (12, i6 fs.length), (13, .bool true), (14, i6 i), (15, i6 (i + 1)), (16, i6 (rm - sumB fs i)), (17, .pointer (some ⟨q1, 1, none⟩)), (18, .slice pf fs.length cf), (19, i6 i), (20, .pointer (some ⟨gF, 3 * i, none⟩)), (21, .pointer (some ⟨gF, 3 * i + 1, none⟩)), (22, .string f.b), (23, i6 f.b.size), (24, i6 ((rm - sumB fs i) - f.b.size))], (by rw [sumB_succ hf, ← Nat.sub_sub]; kernel_rfl), h6, trivial⟩
 ·rintro _ w7 ⟨u4, rfl, h8, _hp⟩;refine wp_seq (zsr (zv (zv ?_)));refine zwu (v := .slice pf fs.length cf) (run_load1 isAgg26 (((h8.get 0 rfl).cell 1).trans rfl)) ?_;refine zv ?_;refine zwu (run_lss (k := .i64) (a := fs.length) (b := fs.length) false (df (by omega))) ?_;refine znt (zcf ?_);refine wp_exit ?_
  repeat first | refine then_exit ?_ | refine block_exit ?_ | refine block_exit_ne (by decide) ?_
  refine zt (zsr (zv (zv (znt ?_))));refine wp_ret ?_
  repeat first|refine zrt ?_|refine block_ret ?_
  exact zb ⟨rfl, h8.old.old⟩
theorem rread_d {w : World} {rm lf nz cz cf : Nat} {pf pz : Option Addr} {fs : List RF} {N : BL} (hF : RFL (.slice pf fs.length cf) fs N) (hS : Stand w N) (hfl : fs.length ≤ 100000) (s : ByteArray)  :
  Calls prog 41 #[.agg (d5 rm pf fs.length cf true lf pz nz cz), .string s] w fun e w' => e = .returned (.tuple #[.string { data := #[] }, i6 16]) ∧ Below w.heap.size w w' := by
 have H0 := HA.start w
 go_enter Tryz.func41, Tryz.ntmps41
 refine zsr ?_;refine wl_make (c := (d5 rm pf fs.length cf true lf pz nz cz)) H0 29 ?_;intro q1 w2 h3;refine zv (zv (znt (wp_seq (zsr (zv ?_)))));refine zwu (v := .bool true) (run_load1 isAgg4 (((h3.get 0 rfl).cell 2).trans rfl)) ?_;refine znt (zct (zsr (zv (zv (znt ?_)))));refine wp_ret ?_
 repeat first|refine zrt ?_|refine block_ret ?_
 exact zb ⟨rfl, h3.old.old⟩
theorem rread_n {w : World} {rm lf nz cz cf : Nat} {pf pz : Option Addr} {fs : List RF} {N : BL} (hF : RFL (.slice pf fs.length cf) fs N) (hS : Stand w N) (hfl : fs.length ≤ 100000) (s : ByteArray) {i0 : Nat} (hfr : findR fs s = (i0, false)) :
  Calls prog 41 #[.agg (d5 rm pf fs.length cf false lf pz nz cz), .string s] w fun e w' => e = .returned (.tuple #[.string { data := #[] }, i6 5]) ∧ Below w.heap.size w w' := by
 have H0 := HA.start w
 go_enter Tryz.func41, Tryz.ntmps41
 refine zsr ?_;refine wl_make (c := (d5 rm pf fs.length cf false lf pz nz cz)) H0 29 ?_;intro q1 w2 h3;refine zv (zv (znt (wp_seq (zsr (zv ?_)))));refine zwu (v := .bool false) (run_load1 isAgg4 (((h3.get 0 rfl).cell 2).trans rfl)) ?_;refine znt (zcf (wp_skip (zt (zsr ?_))));refine wl_load h3 0 rfl underlying29 rfl ?_;refine zv ?_;refine wl_call (v := .tuple #[i6 i0, .bool false]) h3 enter80 #[.agg ((d5 rm pf fs.length cf false lf pz nz cz)), .string s] (by have hh := rfind_any (lf := lf) (rm := rm) (nz := nz) (cz := cz) (pz := pz) (dn := false) hF (hS.keep h3.old.old) hfl s; rw [hfr] at hh; exact hh) ?_;intro w4 h5;refine zv (zv (zv (zv (zv (znt (wp_seq (zsr (zv (zv (znt ?_))))))))));refine zct (zsr (zv (zv (znt ?_))));refine wp_ret ?_
 repeat first|refine zrt ?_|refine block_ret ?_
 exact zb ⟨rfl, h5.old.old⟩
theorem rread_y {w : World} {rm lf nz cz cf : Nat} {pf pz : Option Addr} {fs : List RF} {N : BL} (hF : RFL (.slice pf fs.length cf) fs N) (hS : Stand w N) (hfl : fs.length ≤ 100000) (s : ByteArray) {i0 : Nat} {f : RF} (hfr : findR fs s = (i0, true)) (hf0 : fs[i0]? = some f) :
  Calls prog 41 #[.agg (d5 rm pf fs.length cf false lf pz nz cz), .string s] w fun e w' => e = .returned (.tuple #[.string f.b, i6 0]) ∧ Below w.heap.size w w' := by
 have hf := hf0;obtain ⟨gF, curF, hpF, _, hgF, c0, c1, c2⟩ := hF.at hf;have H0 := HA.start w
 go_enter Tryz.func41, Tryz.ntmps41
 refine zsr ?_;refine wl_make (c := (d5 rm pf fs.length cf false lf pz nz cz)) H0 29 ?_;intro q1 w2 h3;refine zv (zv (znt (wp_seq (zsr (zv ?_)))));refine zwu (v := .bool false) (run_load1 isAgg4 (((h3.get 0 rfl).cell 2).trans rfl)) ?_;refine znt (zcf (wp_skip (zt (zsr ?_))));refine wl_load h3 0 rfl underlying29 rfl ?_;refine zv ?_;refine wl_call (v := .tuple #[i6 i0, .bool true]) h3 enter80 #[.agg ((d5 rm pf fs.length cf false lf pz nz cz)), .string s] (by have hh := rfind_any (lf := lf) (rm := rm) (nz := nz) (cz := cz) (pz := pz) (dn := false) hF (hS.keep h3.old.old) hfl s; rw [hfr] at hh; exact hh) ?_;intro w4 h5;refine zv (zv (zv (zv (zv (znt (wp_seq (zsr (zv (zv (znt ?_))))))))));refine zcf (wp_skip (zt (zsr (zv ?_))));refine zwu (v := .slice pf fs.length cf) (run_load1 isAgg26 (((h5.get 0 rfl).cell 1).trans rfl)) ?_;refine zv ?_;refine zwu (v := .pointer (some ⟨gF, 3 * i0, none⟩)) (run_addr75p (q := gF) (n := fs.length) (m := cf) (a := i0) hpF (List.getElem?_eq_some_iff.1 hf).1) ?_;refine zv ?_;refine zwu (v := .string f.b) (run_load1 isAgg9 ((((hS.keep h5.old.old) _ hgF).cell (3 * i0 + 1)).trans c1)) ?_;refine zv (zv (znt ?_));refine wp_ret ?_
 repeat first|refine zrt ?_|refine block_ret ?_
 exact zb ⟨rfl, h5.old.old⟩
theorem rsyn_n {w : World} {rm lf nz cz cf : Nat} {pf pz : Option Addr} {fs : List RF} {N : BL} (hF : RFL (.slice pf fs.length cf) fs N) (hS : Stand w N) (hfl : fs.length ≤ 100000) (s : ByteArray) {i0 : Nat} (hfr : findR fs s = (i0, false)) :
  Calls prog 43 #[.agg (d5 rm pf fs.length cf false lf pz nz cz), .string s] w fun e w' => e = .returned (i6 0) ∧ Below w.heap.size w w' := by
 have H0 := HA.start w
 go_enter Tryz.func43, Tryz.ntmps43
 refine zsr ?_;refine wl_make (c := (d5 rm pf fs.length cf false lf pz nz cz)) H0 29 ?_;intro q1 w2 h3;refine zv (znt (zsr ?_));refine wl_load h3 0 rfl underlying29 rfl ?_;refine zv ?_;refine wl_call (v := .tuple #[i6 i0, .bool false]) h3 enter80 #[.agg ((d5 rm pf fs.length cf false lf pz nz cz)), .string s] (by have hh := rfind_any (lf := lf) (rm := rm) (nz := nz) (cz := cz) (pz := pz) (dn := false) hF (hS.keep h3.old.old) hfl s; rw [hfr] at hh; exact hh) ?_;intro w4 h5;refine zv (zv (zv (zv (zv (znt (wp_seq (zsr (zv (zv (zv ?_))))))))));refine wl_skip ?_;refine wl_skip ?_;refine zv (znt (zct (zsr (zv (znt ?_)))));refine wp_ret ?_
 repeat first|refine zrt ?_|refine block_ret ?_
 exact zb ⟨rfl, h5.old.old⟩
theorem rsyn_nd {w : World} {rm lf nz cz cf : Nat} {pf pz : Option Addr} {fs : List RF} {N : BL} (hF : RFL (.slice pf fs.length cf) fs N) (hS : Stand w N) (hfl : fs.length ≤ 100000) (s : ByteArray) {i0 : Nat} (hfr : findR fs s = (i0, false)) :
  Calls prog 43 #[.agg (d5 rm pf fs.length cf true lf pz nz cz), .string s] w fun e w' => e = .returned (i6 0) ∧ Below w.heap.size w w' := by
 have H0 := HA.start w
 go_enter Tryz.func43, Tryz.ntmps43
 refine zsr ?_;refine wl_make (c := (d5 rm pf fs.length cf true lf pz nz cz)) H0 29 ?_;intro q1 w2 h3;refine zv (znt (zsr ?_));refine wl_load h3 0 rfl underlying29 rfl ?_;refine zv ?_;refine wl_call (v := .tuple #[i6 i0, .bool false]) h3 enter80 #[.agg ((d5 rm pf fs.length cf true lf pz nz cz)), .string s] (by have hh := rfind_any (lf := lf) (rm := rm) (nz := nz) (cz := cz) (pz := pz) (dn := true) hF (hS.keep h3.old.old) hfl s; rw [hfr] at hh; exact hh) ?_;intro w4 h5;refine zv (zv (zv (zv (zv (znt (wp_seq (zsr (zv (zv (zv ?_))))))))));refine wl_skip ?_;refine wl_skip ?_;refine zv (znt (zct (zsr (zv (znt ?_)))));refine wp_ret ?_
 repeat first|refine zrt ?_|refine block_ret ?_
 exact zb ⟨rfl, h5.old.old⟩
theorem rsyn_d {w : World} {rm lf nz cz cf : Nat} {pf pz : Option Addr} {fs : List RF} {N : BL} (hF : RFL (.slice pf fs.length cf) fs N) (hS : Stand w N) (hfl : fs.length ≤ 100000) (s : ByteArray) {i0 : Nat} (hfr : findR fs s = (i0, true)) :
  Calls prog 43 #[.agg (d5 rm pf fs.length cf true lf pz nz cz), .string s] w fun e w' => e = .returned (i6 0) ∧ Below w.heap.size w w' := by
 have H0 := HA.start w
 go_enter Tryz.func43, Tryz.ntmps43
 refine zsr ?_;refine wl_make (c := (d5 rm pf fs.length cf true lf pz nz cz)) H0 29 ?_;intro q1 w2 h3;refine zv (znt (zsr ?_));refine wl_load h3 0 rfl underlying29 rfl ?_;refine zv ?_;refine wl_call (v := .tuple #[i6 i0, .bool true]) h3 enter80 #[.agg ((d5 rm pf fs.length cf true lf pz nz cz)), .string s] (by have hh := rfind_any (lf := lf) (rm := rm) (nz := nz) (cz := cz) (pz := pz) (dn := true) hF (hS.keep h3.old.old) hfl s; rw [hfr] at hh; exact hh) ?_;intro w4 h5;refine zv (zv (zv (zv (zv (znt (wp_seq (zsr (zv (zv (zv ?_))))))))));refine zv ?_;refine zwu (v := .bool true) (run_load1 isAgg4 (((h5.get 0 rfl).cell 2).trans rfl)) ?_;refine zv (znt (zct (zsr (zv (znt ?_)))));refine wp_ret ?_
 repeat first|refine zrt ?_|refine block_ret ?_
 exact zb ⟨rfl, h5.old.old⟩
theorem rsyn_y {w : World} {rm lf nz cz cf : Nat} {pf pz : Option Addr} {fs : List RF} {N : BL} (hF : RFL (.slice pf fs.length cf) fs N) (hS : Stand w N) (hfl : fs.length ≤ 100000) (s : ByteArray) {i0 : Nat} {f : RF} (hfr : findR fs s = (i0, true)) (hf0 : fs[i0]? = some f) :
  Calls prog 43 #[.agg (d5 rm pf fs.length cf false lf pz nz cz), .string s] w fun e w' => e = .returned (i6 f.sy) ∧ Below w.heap.size w w' := by
 have hf := hf0;obtain ⟨gF, curF, hpF, _, hgF, c0, c1, c2⟩ := hF.at hf;have H0 := HA.start w
 go_enter Tryz.func43, Tryz.ntmps43
 refine zsr ?_;refine wl_make (c := (d5 rm pf fs.length cf false lf pz nz cz)) H0 29 ?_;intro q1 w2 h3;refine zv (znt (zsr ?_));refine wl_load h3 0 rfl underlying29 rfl ?_;refine zv ?_;refine wl_call (v := .tuple #[i6 i0, .bool true]) h3 enter80 #[.agg ((d5 rm pf fs.length cf false lf pz nz cz)), .string s] (by have hh := rfind_any (lf := lf) (rm := rm) (nz := nz) (cz := cz) (pz := pz) (dn := false) hF (hS.keep h3.old.old) hfl s; rw [hfr] at hh; exact hh) ?_;intro w4 h5;refine zv (zv (zv (zv (zv (znt (wp_seq (zsr (zv (zv (zv ?_))))))))));refine zv ?_;refine zwu (v := .bool false) (run_load1 isAgg4 (((h5.get 0 rfl).cell 2).trans rfl)) ?_;refine zv (znt (zcf (wp_skip (zt (zsr (zv ?_))))));refine zwu (v := .slice pf fs.length cf) (run_load1 isAgg26 (((h5.get 0 rfl).cell 1).trans rfl)) ?_;refine zv ?_;refine zwu (v := .pointer (some ⟨gF, 3 * i0, none⟩)) (run_addr75p (q := gF) (n := fs.length) (m := cf) (a := i0) hpF (List.getElem?_eq_some_iff.1 hf).1) ?_;refine zv ?_;refine zwu (v := i6 f.sy) (run_load1 isAgg3 ((((hS.keep h5.old.old) _ hgF).cell (3 * i0 + 2)).trans c2)) ?_;refine zv (znt ?_);refine wp_ret ?_
 repeat first|refine zrt ?_|refine block_ret ?_
 exact zb ⟨rfl, h5.old.old⟩
end Go.Proofs.YtckmlaempffpjaaGreat
namespace Go.Proofs.YtckmlaempffpjaaGreat
open Go.RowKit Go.Proofs.Tryz
structure Newer (B : Nat) (w : World) (N : BL) : Prop where
 all : ∀ y ∈ N, B ≤ y.1 ∧ Blk w y.1 y.2.1 y.2.2
 nd : (N.map (·.1)).Nodup
theorem Newer.nil (B : Nat) (w : World) : Newer B w [] := ⟨fun y hy => (by cases hy), List.nodup_nil⟩
theorem HA.newerN {L N : BL} {w w' : World} (H : HA (bs w) (N ++ L) w') : Newer w.heap.size w' N :=
 ⟨fun y hy => ⟨H.own y (by simp [hy]), H.blk y (by simp [hy])⟩, by have := H.nd; rw [List.map_append, List.nodup_append] at this; exact this.1⟩
theorem info127 : (prog.info? 127).map (fun i => (i.zero, i.size, i.bytes)) = some (some (.agg #[.string { data := #[] }, .string { data := #[] }, .int .i64 0]), 3, 40) := by kernel_rfl
def Src (o : Option Addr) (m : Nat) (news : List Value) (N : BL) : Prop := m = 0 ∨ ∃ a, o = some a ∧ ∀ w, Stand w N → ∀ j u, news[j]? = some u → w.cell? (a.add j) = some u
theorem RFL.le {p : Option Addr} {n c : Nat} {fs : List RF} {N : BL} (h : RFL (.slice p n c) fs N) : n = fs.length ∧ n ≤ c ∧ c ≤ maxLen ∧ (p = none → c = 0) := by
 rcases h with ⟨h1, rfl⟩ | ⟨g, cap, cur, h1, _, h3, h4, _⟩
 ·cases h1; exact ⟨rfl, Nat.le_refl _, Nat.zero_le _, fun _ => rfl⟩
 ·cases h1; exact ⟨rfl, h3, h4, fun e => by cases e⟩
theorem RFL.src {p : Option Addr} {n c : Nat} {fs : List RF} {N : BL} (h : RFL (.slice p n c) fs N) (hn : n ≠ 0) : ∃ g cur, p = some ⟨g, 0, none⟩ ∧ (g, 127, cur) ∈ N ∧ cur.toList.take (fs.length * 3) = fcl fs := by
 rcases h with ⟨h1, rfl⟩ | ⟨g, cap, cur, h1, h2, _, _, h5⟩
 ·cases h1; exact absurd rfl hn
 ·cases h1; exact ⟨g, cur, rfl, h2, h5⟩
theorem fcl_split (fs : List RF) (k : Nat) : fcl fs = fcl (fs.take k) ++ fcl (fs.drop k) := by
 unfold fcl
 rw [← List.flatMap_append, List.take_append_drop]
theorem fcl_take (fs : List RF) (k : Nat) (hk : k ≤ fs.length) : fcl (fs.take k) = (fcl fs).take (k * 3) := by
 have l : (fcl (fs.take k)).length = k * 3 := by rw [fcl_len, List.length_take]; omega
 rw [fcl_split fs k, ← l, List.take_left]
theorem fcl_drop (fs : List RF) (k : Nat) (hk : k ≤ fs.length) : fcl (fs.drop k) = (fcl fs).drop (k * 3) := by
 have l : (fcl (fs.take k)).length = k * 3 := by rw [fcl_len, List.length_take]; omega
 rw [fcl_split fs k, ← l, List.drop_left]
theorem addOff (g k j : Nat) : (⟨g, k, none⟩ : Addr).add j = ⟨g, k + j, none⟩ := by unfold Addr.add; split <;> simp_all
theorem cutHi {p : Option Addr} {n c k : Nat} {fs : List RF} {N : BL} (h : RFL (.slice p n c) fs N) (hk : k ≤ fs.length) :
  ∃ o c', (∀ (ρ : Operand → Value) (x y : Operand) (dst : Option Tmp) (ty : TypeId) (pos : String) (aft : Array Edge) (gd : Option (Nat × Bool)) (w : World), ρ x = .slice p n c → ρ y = i6 k → (execOp ρ ⟨dst, .slice 26 x none (some y) none, ty, pos, aft, gd⟩).run prog w = .ok (.value (.slice o k c')) w) ∧ Src o k (fcl (fs.take k)) N := by
 obtain ⟨rfl, h1, h2, h3⟩ := h.le;refine ⟨p, c, fun ρ x y dst ty pos aft gd w hx hy => ?_, ?_⟩
 ·have hkc : k ≤ c := by omega
  cases p with
  | none =>
   have hc := h3 rfl;subst hc;obtain rfl : k = 0 := by omega
   simp only [execOp, hx]
   simp [go_sem, underlying26, hy, iN]
  | some a =>
   simp only [execOp, hx]
   simp [go_sem, underlying26, sizeOf127, hy, iN, hkc]
 ·by_cases h0 : fs.length = 0
  ·exact .inl (by omega)
  ·obtain ⟨g, cur, rfl, hg, ht⟩ := h.src h0;refine .inr ⟨_, rfl, fun w hS j u hu => ?_⟩;rw [addOff, Nat.zero_add, (hS _ hg).cell j];rw [fcl_take fs k hk, ← ht, List.take_take, List.getElem?_take] at hu
   split at hu
   ·simpa using hu
   ·cases hu
theorem cutLo {p : Option Addr} {n c k : Nat} {fs : List RF} {N : BL} (h : RFL (.slice p n c) fs N) (hk : k ≤ fs.length) :
  ∃ o c', (∀ (ρ : Operand → Value) (x y : Operand) (dst : Option Tmp) (ty : TypeId) (pos : String) (aft : Array Edge) (gd : Option (Nat × Bool)) (w : World), ρ x = .slice p n c → ρ y = i6 k → (execOp ρ ⟨dst, .slice 26 x (some y) none none, ty, pos, aft, gd⟩).run prog w = .ok (.value (.slice o (fs.length - k) c')) w) ∧ Src o (fs.length - k) (fcl (fs.drop k)) N := by
 obtain ⟨rfl, h1, h2, h3⟩ := h.le;refine ⟨if c = k then p else p.map (·.add (k * 3)), c - k, fun ρ x y dst ty pos aft gd w hx hy => ?_, ?_⟩
 ·have hkc : k ≤ c := by omega
  simp only [execOp, hx]
  simp [go_sem, underlying26, sizeOf127, hy, iN, hk]
 ·by_cases h0 : fs.length - k = 0
  ·exact .inl h0
  ·obtain ⟨g, cur, rfl, hg, ht⟩ := h.src (by omega);refine .inr ⟨⟨g, k * 3, none⟩, ?_, fun w hS j u hu => ?_⟩
   ·rw [if_neg (by omega), Option.map_some, addOff, Nat.zero_add]
   ·rw [addOff, (hS _ hg).cell (k * 3 + j)];rw [fcl_drop fs k hk, ← ht, List.getElem?_drop, List.getElem?_take] at hu
    split at hu
    ·simpa using hu
    ·cases hu
theorem fcl_one (fs : List RF) : ∀ u ∈ fcl fs, u.oneCell' = true := fun u hu => by
 obtain ⟨f, _, hf⟩ := List.mem_flatMap.1 hu
 simp only [rf1, List.mem_cons, List.not_mem_nil, or_false] at hf
 rcases hf with rfl | rfl | rfl <;> rfl
theorem run_app0F {ρ : Operand → Value} {x y : Operand} {w : World} {dst : Option Tmp} {ty : TypeId} {pos : String} {aft : Array Edge} {gd : Option (Nat × Bool)} {p o : Option Addr} {n c c' : Nat} (hx : ρ x = .slice p n c) (hy : ρ y = .slice o 0 c') (hn : n ≤ c) :
  (execOp ρ ⟨dst, .call { callee := .builtin .append, args := #[x, y], argTypes := #[26, 26] }, ty, pos, aft, gd⟩).run prog w = .ok (.value (.slice p n c)) w := by
 unfold execOp
 simp only [resolve, invoke, builtin, Sem.run_bind, Sem.run_pure, Result.andThen_ok, List.map_toArray, List.map_cons, List.map_nil, hx, hy]
 cases p <;> cases o <;> simp [Builtin.append_, go_sem, sizeOf127, hn]
theorem run_app0Z {ρ : Operand → Value} {x y : Operand} {w : World} {dst : Option Tmp} {ty : TypeId} {pos : String} {aft : Array Edge} {gd : Option (Nat × Bool)} {p o : Option Addr} {n c c' : Nat} (hx : ρ x = .slice p n c) (hy : ρ y = .slice o 0 c') (hn : n ≤ c) :
  (execOp ρ ⟨dst, .call { callee := .builtin .append, args := #[x, y], argTypes := #[27, 27] }, ty, pos, aft, gd⟩).run prog w = .ok (.value (.slice p n c)) w := by
 unfold execOp
 simp only [resolve, invoke, builtin, Sem.run_bind, Sem.run_pure, Result.andThen_ok, List.map_toArray, List.map_cons, List.map_nil, hx, hy]
 cases p <;> cases o <;> simp [Builtin.append_, go_sem, sizeOf3, hn]
theorem Row.cap {e : TypeId} {sz n : Nat} {v : Value} {xs : List Value} {Lr : BL} (h : Row e sz v n xs Lr) : ∃ p c, v = .slice p n c ∧ n ≤ c := by
 rcases h.2 with ⟨h1, h2, _⟩ | ⟨g, cap, cur, h1, _, h3, _⟩
 ·exact ⟨none, 0, by rw [h1, h2], by omega⟩
 ·exact ⟨_, _, h1, h3⟩
section
variable {ops : Array Oper} {Q : Exit → Act → World → Prop} {a : Act} {rest : List Oper} {w : World} {z : Base} {Lr L N : BL} {dst : Option Tmp} {ty : TypeId} {pos : String} {aft : Array Edge} {gd : Option (Nat × Bool)}
theorem wl_appF {n m c : Nat} {v : Value} {xs news : List Value} {o : Option Addr} {x y : Operand} (hR : Row 127 3 v n xs Lr) (H : HA z (Lr ++ L) w) (hs : Src o m news N) (hS : Stand w N) (hl : news.length = m * 3) (h1 : ∀ u ∈ news, u.oneCell' = true)
    
      (h63 : n + m ≤ 1000000000)
    (h : ∀ v' w' Lr', Row 127 3 v' (n + m) (xs ++ news) Lr' → HA z (Lr' ++ L) w' → WL prog ops Q rest (a.put dst v') w') (hw : Region.wanted ⟨dst, .call { callee := .builtin .append, args := #[x, y], argTypes := #[26, 26] }, ty, pos, aft, gd⟩ (yielded ops a.tmps) = true := by kernel_rfl) (hx : a.eval x = v := by kernel_rfl) (hy : a.eval y = .slice o m c := by kernel_rfl) :
    WL prog ops Q (⟨dst, .call { callee := .builtin .append, args := #[x, y], argTypes := #[26, 26] }, ty, pos, aft, gd⟩ :: rest) a w := by
  by_cases hm : m = 0
  · subst hm;have hn : news = [] := List.eq_nil_of_length_eq_zero (by omega);subst hn;obtain ⟨p, c1, hv, hc⟩ := hR.cap;rw [hv] at hx;have := h v w Lr (by simpa using hR) H;rw [hv] at this;exact wl_val _ hw (run_app0F hx hy hc) this
  · obtain ⟨ad, rfl, hcell⟩ := hs.resolve_left hm;obtain ⟨i, hi, hh⟩ := Option.map_eq_some_iff.1 info127
    simp only [Prod.mk.injEq] at hh
    obtain ⟨v', w', Lr', hrun, hR', H'⟩ := hR.append H (by decide) 26 ty i _ 40 underlying26 hi hh.1 hh.2.1 hh.2.2 rfl (by decide) ad m c news hl (hcell w hS) h1 (by unfold maxLen; omega) (by omega) (by omega);refine wl_any hw ?_ (h v' w' Lr' hR' H')
    unfold execOp
    simp only [resolve, invoke, builtin, Sem.run_bind, Sem.run_pure, Result.andThen_ok, List.map_toArray, List.map_cons, List.map_nil, hx, hy, hrun]
theorem wl_appZ {n m c : Nat} {v : Value} {xs news : List Value} {o : Option Addr} {x y : Operand} (hR : Row 3 1 v n xs Lr) (H : HA z (Lr ++ L) w) (hs : Src o m news N) (hS : Stand w N) (hl : news.length = m * 1) (h1 : ∀ u ∈ news, u.oneCell' = true)
  (hw : Region.wanted ⟨dst, .call { callee := .builtin .append, args := #[x, y], argTypes := #[27, 27] }, ty, pos, aft, gd⟩ (yielded ops a.tmps) = true)
  (hx : a.eval x = v) (hy : a.eval y = .slice o m c) (h63 : n + m ≤ 1000000000)
  (h : ∀ v' w' Lr', Row 3 1 v' (n + m) (xs ++ news) Lr' → HA z (Lr' ++ L) w' → WL prog ops Q rest (a.put dst v') w') :
  WL prog ops Q (⟨dst, .call { callee := .builtin .append, args := #[x, y], argTypes := #[27, 27] }, ty, pos, aft, gd⟩ :: rest) a w := by
 by_cases hm : m = 0
 ·subst hm;have hn : news = [] := List.eq_nil_of_length_eq_zero (by omega);subst hn;obtain ⟨p, c1, hv, hc⟩ := hR.cap;rw [hv] at hx;have := h v w Lr (by simpa using hR) H;rw [hv] at this;exact wl_val _ hw (run_app0Z hx hy hc) this
 ·obtain ⟨ad, rfl, hcell⟩ := hs.resolve_left hm;obtain ⟨i, hi, hh⟩ := Option.map_eq_some_iff.1 info3
  simp only [Prod.mk.injEq] at hh
  obtain ⟨v', w', Lr', hrun, hR', H'⟩ := hR.append H (by decide) 27 ty i _ 8 underlying27 hi hh.1 hh.2.1 hh.2.2 rfl (by decide) ad m c news hl (hcell w hS) h1 (by unfold maxLen; omega) (by omega) (by omega);refine wl_any hw ?_ (h v' w' Lr' hR' H')
  unfold execOp
  simp only [resolve, invoke, builtin, Sem.run_bind, Sem.run_pure, Result.andThen_ok, List.map_toArray, List.map_cons, List.map_nil, hx, hy, hrun]
end
theorem RZL.src {p : Option Addr} {n c : Nat} {zs : List Nat} {N : BL} (h : RZL (.slice p n c) zs N) : n = zs.length ∧ Src p n (zs.map (i6 ·)) N := by
 rcases h with ⟨h1, rfl⟩ | ⟨g, cap, cur, h1, hg, _, _, ht⟩
 ·cases h1; exact ⟨rfl, .inl rfl⟩
 ·cases h1
  refine ⟨rfl, .inr ⟨_, rfl, fun w hS j u hu => ?_⟩⟩;rw [addOff, Nat.zero_add, (hS _ hg).cell j];rw [← ht, List.getElem?_take] at hu
  split at hu
  ·simpa using hu
  ·cases hu
theorem Row.rffl {v : Value} {fs : List RF} {Lr : BL} {n : Nat} (hn : n = fs.length) (h : Row 127 3 v n (fcl fs) Lr) : RFL v fs Lr := by
 subst hn
 rcases h.2 with ⟨h1, h2, _⟩ | ⟨g, cap, cur, h1, h2, h3, h4, h5, h6⟩
 ·exact .inl ⟨h1, List.length_eq_zero_iff.1 h2⟩
 ·exact .inr ⟨g, cap, cur, h1, by rw [h2]; exact List.mem_singleton.2 rfl, h3, h4, h6⟩
theorem Row.rzl {v : Value} {zs : List Nat} {Lr : BL} {n : Nat} (hn : n = zs.length) (h : Row 3 1 v n (zs.map (i6 ·)) Lr) : RZL v zs Lr := by
 subst hn
 rcases h.2 with ⟨h1, h2, _⟩ | ⟨g, cap, cur, h1, h2, h3, h4, h5, h6⟩
 ·exact .inl ⟨h1, List.length_eq_zero_iff.1 h2⟩
 ·rw [Nat.mul_one] at h6;exact .inr ⟨g, cap, cur, h1, by rw [h2]; exact List.mem_singleton.2 rfl, h3, h4, h6⟩
end Go.Proofs.YtckmlaempffpjaaGreat
