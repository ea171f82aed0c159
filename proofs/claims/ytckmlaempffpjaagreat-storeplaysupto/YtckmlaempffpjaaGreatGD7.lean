/-
 Sync, Remove, Rename.
-/
import Derived.Test.YtckmlaempffpjaaGreatGD5
import Derived.Sort.KeysCollected
import Derived.StringKeys
namespace Go.Proofs.YtckmlaempffpjaaGreat
set_option linter.unusedVariables false
set_option maxRecDepth 100000
set_option maxHeartbeats 2000000
open Go.RowKit Go.Proofs.Tryz
def keepF (fs : List FA) (nm : ByteArray) : List FA := fs.filter fun x => decide (x.nm = nm)
def syncF (D : DS) (nm : ByteArray) : DS := { D with fs := updF D.fs nm (fun x => { x with sy := x.da.length }) }
def remF (D : DS) (nm : ByteArray) : DS := { D with fs := delF D.fs nm, free := D.free + used (keepF D.fs nm) }
def renF (D : DS) (a b : ByteArray) : DS := { D with fs := delF (delF D.fs b) a ++ (keepF (delF D.fs b) a).map (fun x => { x with nm := b }), free := D.free + used (keepF D.fs b) }
theorem used_split (fs : List FA) (s : ByteArray) : used (delF fs s) + used (keepF fs s) = used fs := by
 induction fs with
 | nil => rfl
 | cons x l ih =>
  by_cases h : x.nm = s
  ·have e1 : delF (x :: l) s = delF l s := by simp [delF, h]
   have e2 : keepF (x :: l) s = x :: keepF l s := by simp [keepF, h]
   rw [e1, e2]
   simp only [used, List.map_cons, List.sum_cons] at ih ⊢
   omega
  ·have e1 : delF (x :: l) s = x :: delF l s := by simp [delF, h]
   have e2 : keepF (x :: l) s = keepF l s := by simp [keepF, h]
   rw [e1, e2]
   simp only [used, List.map_cons, List.sum_cons] at ih ⊢
   omega
def dlL (fl : List Fl) (s : ByteArray) : List Fl := fl.filter fun f => decide (f.nm ≠ s)
theorem dlL_ab (fl : List Fl) (s : ByteArray) : (dlL fl s).map ab = delF (fl.map ab) s := by
 unfold dlL delF
 rw [List.filter_map]
 rfl
theorem FK.dl {fl : List Fl} {nx : Nat} (h : FK fl nx) (s : ByteArray) : FK (dlL fl s) nx := by
 have sub : (dlL fl s).Sublist fl := List.filter_sublist;exact ⟨fun x hx => h.row x (sub.subset hx), fun x hx => h.syn x (sub.subset hx), (sub.map _).nodup h.nms, fun x hx => h.old x (sub.subset hx), (sub.map _).nodup h.bns⟩
theorem dl_no {fl : List Fl} {s : ByteArray} (h : ∀ f ∈ fl, f.nm ≠ s) : dlL fl s = fl := List.filter_eq_self.2 fun f hf => decide_eq_true (h f hf)
theorem dl_yes {A B : List Fl} {f : Fl} {nx : Nat} (h : FK (A ++ f :: B) nx) : dlL (A ++ f :: B) f.nm = A ++ B := by
 have e : dlL (A ++ f :: B) f.nm = dlL A f.nm ++ dlL B f.nm := by simp [dlL]
 rw [e, dl_no h.apartA, dl_no h.apartB]
theorem keep_no {fl : List Fl} {s : ByteArray} (h : ∀ f ∈ fl, f.nm ≠ s) : keepF (fl.map ab) s = [] := by
 unfold keepF
 refine List.filter_eq_nil_iff.2 fun x hx => ?_
 obtain ⟨f, hf, rfl⟩ := List.mem_map.1 hx
 simp only [decide_eq_true_eq]
 exact h f hf
theorem keep_yes {A B : List Fl} {f : Fl} {nx : Nat} (h : FK (A ++ f :: B) nx) : keepF ((A ++ f :: B).map ab) f.nm = [ab f] := by
 have e : keepF ((A ++ f :: B).map ab) f.nm = keepF (A.map ab) f.nm ++ (ab f :: keepF (B.map ab) f.nm) := by simp [keepF, ab]
 rw [e, keep_no h.apartA, keep_no h.apartB]
 rfl
theorem drop_any {w0 : World} {M : ML} {q r fr lf nx : Nat} {dn : Bool} {v : Value} {Lr L : BL} {w : World} {fl : List Fl} {s : ByteArray} (hK : FK fl nx) (H0 : HA ⟨w0, (r, .mp (eF fl) nx) :: M⟩ ((q, 78, dcell r fr lf dn v) :: (Lr ++ (FB fl ++ L))) w) (hfr : fr + used (fl.map ab) ≤ 9223372036854775807) :
  Calls prog 101 #[pt q, .string s] w fun e w' => e = .returned (.tuple #[]) ∧ HA ⟨w0, (r, .mp (eF (dlL fl s)) nx) :: M⟩ ((q, 78, dcell r (fr + used (keepF (fl.map ab) s)) lf dn v) :: (Lr ++ (FB (dlL fl s) ++ L))) w' := by
 by_cases h : ∃ f ∈ fl, f.nm = s
 ·obtain ⟨A, f, B, rfl, h1, h2⟩ := fl_split h;subst h1;rw [dl_yes hK, keep_yes hK];have hu := used_mem (fs := (A ++ f :: B).map ab) (x := ab f) (by simp);have := drop_yes hK rfl H0 (by have h3 : (ab f).da.length = f.da.length := rfl; omega);exact this
 ·have hn : ∀ f ∈ fl, f.nm ≠ s := fun f hf e => h ⟨f, hf, e⟩
  rw [dl_no hn, keep_no hn];exact drop_no hK hn H0
theorem sync_deed {w0 : World} {M : ML} {d : Dk} {D : DS} {X : BL} {A B : List Fl} {f : Fl} {nm : ByteArray} {nx : Nat} {v : Value} {Lr : BL} {w : World} (hfl : (A ++ f :: B).map ab = D.fs) (hf : f.nm = nm) (hK : FK (A ++ f :: B) nx) (hR : Row 3 1 v D.sizes.length (D.sizes.map (i6 ·)) Lr) (H0 : HA ⟨w0, (d.r, .mp (eF (A ++ f :: B)) nx) :: M⟩ ((d.q, 78, dcell d.r D.free D.left D.down v) :: (Lr ++ (FB (A ++ f :: B) ++ X))) w) :
  Calls prog 76 #[pt f.p] w fun e w' => e = .returned (i6 0) ∧ DH w0 M d (syncF D nm) X w' := by
 obtain ⟨pf, cf, hv⟩ := (hK.row f (by simp)).form;have hrow := hK.row f (by simp);rw [hv] at hrow;have H0 := H0.file;rw [hv] at H0
 go_enter Tryz.func76, Tryz.ntmps76
 refine zsr (zv (znt (zsr (zv (zv (zv (zv ?_)))))));refine zwu (v := .slice pf f.da.length cf) (run_load1 isAgg62 (((H0.get 1 rfl).cell 0).trans rfl)) ?_;refine zv (zv (zv ?_));refine wl_putv (v := i6 f.da.length) H0 1 rfl 1 (by show 1 < 2; decide) sizeOf3 ?_;intro w1 h2;refine znt (zsr (zv (znt ?_)));refine wp_ret ?_
 repeat first|refine zrt ?_|refine block_ret ?_
 have hup := upd_at hK ⟨f.nm, f.p, f.da, f.da.length, .slice pf f.da.length cf, f.Lr, f.bn⟩ (fun x => { x with sy := x.da.length }) rfl;rw [hfl] at hup;subst hf;exact zb ⟨rfl, A ++ ⟨f.nm, f.p, f.da, f.da.length, .slice pf f.da.length cf, f.Lr, f.bn⟩ :: B, nx, v, Lr, hup, hK.turn rfl rfl hrow (Nat.le_refl _), hR, HA.unfile (f := ⟨f.nm, f.p, f.da, f.da.length, .slice pf f.da.length cf, f.Lr, f.bn⟩) (by rw [eF_same (g := ⟨f.nm, f.p, f.da, f.da.length, .slice pf f.da.length cf, f.Lr, f.bn⟩) (f := f) rfl rfl rfl]; exact h2)⟩
def SyncD (D : DS) (nm : ByteArray) : DS × Nat := OnD D (syncF (spendD D) nm) nm 0
def RemoveD (D : DS) (nm : ByteArray) : DS × Nat := OnD D (remF (spendD D) nm) nm 0
def renT (D : DS) (a b : ByteArray) : DS × Nat := if isNm b = false then (D, 2) else if a = b then (D, 0) else (renF D a b, 0)
def RenameD (D : DS) (a b : ByteArray) : DS × Nat := OnD D (renT (spendD D) a b).1 a (renT (spendD D) a b).2
theorem Sync_any {w0 : World} {M : ML} {d : Dk} {D : DS} {L : BL} {w : World} (hD : DH w0 M d D L w) (nm : ByteArray) {U N : Nat} (hb : DB D U N) (hN : N ≤ 1000000000) :
  Calls prog 32 #[pt d.q, .string nm] w fun e w' => e = .returned (i6 (SyncD D nm).2) ∧ DH w0 M d (SyncD D nm).1 L w' := by
 obtain ⟨fl, nx, v, Lr, hfl, hK, hR, H0⟩ := hD
 go_enter Tryz.func32, Tryz.ntmps32
 refine zsr (zv (znt (zsr (zv (zv ?_)))));refine wl_callx enter75 #[pq d.q, .string nm, .func (.func 76) #[] #[]] (operateOn_any (D2 := syncF (spendD D) nm) (er := 0) ⟨fl, nx, v, Lr, hfl, hK, hR, H0⟩ enter76 hb hN (Nat.le_trans hb.sz hN) (fun _ _ _ w A B f nx v Lr h1 h2 h3 h4 h5 => sync_deed h1 h2 h3 h4 h5)) ?_;rintro _ w1 ⟨rfl, hD2⟩;refine ⟨_, rfl, ?_⟩;refine zv (znt ?_);refine wp_ret ?_
 repeat first|refine zrt ?_|refine block_ret ?_
 exact zb ⟨rfl, hD2⟩
theorem rem_deed {w0 : World} {M : ML} {d : Dk} {D : DS} {X : BL} {A B : List Fl} {f : Fl} {nm : ByteArray} {nx : Nat} {v : Value} {Lr : BL} {w : World} (hfl : (A ++ f :: B).map ab = D.fs) (hf : f.nm = nm) (hK : FK (A ++ f :: B) nx) (hR : Row 3 1 v D.sizes.length (D.sizes.map (i6 ·)) Lr) (H0 : HA ⟨w0, (d.r, .mp (eF (A ++ f :: B)) nx) :: M⟩ ((d.q, 78, dcell d.r D.free D.left D.down v) :: (Lr ++ (FB (A ++ f :: B) ++ X))) w) {b2 b3 : Nat} (hb2 : (b2, 23, #[pt d.q]) ∈ X) (hb3 : (b3, 9, #[.string nm]) ∈ X) (hrm : D.free + used D.fs ≤ 9223372036854775807) :
  Calls prog 100 #[pt f.p, pt b2, pt b3] w fun e w' => e = .returned (i6 0) ∧ DH w0 M d (remF D nm) X w' := by
 go_enter Tryz.func100, Tryz.ntmps100
 refine zsr (zv (znt (zsr ?_)));refine zwu (v := pq d.q) (run_load1 isAgg23 (((H0.blk (b2, 23, #[pt d.q]) (by simp [hb2])).cell 0).trans rfl)) ?_;refine zwu (v := .string nm) (run_load1 isAgg9 (((H0.blk (b3, 9, #[.string nm]) (by simp [hb3])).cell 0).trans rfl)) ?_;refine wl_callx enter101 #[pq d.q, .string nm] (drop_any hK H0 (by rw [hfl]; exact hrm)) ?_;rintro _ w1 ⟨rfl, hdr⟩;refine ⟨_, rfl, ?_⟩;refine znt (zsr (zv (znt ?_)));refine wp_ret ?_
 repeat first|refine zrt ?_|refine block_ret ?_
 exact zb ⟨rfl, _, nx, v, Lr, by rw [dlL_ab, hfl]; rfl, hK.dl nm, hR, by rw [hfl] at hdr; exact hdr⟩
theorem Remove_any {w0 : World} {M : ML} {d : Dk} {D : DS} {L : BL} {w : World} (hD : DH w0 M d D L w) (nm : ByteArray) {U N : Nat} (hb : DB D U N) (hN : N ≤ 1000000000) :
  Calls prog 49 #[pt d.q, .string nm] w fun e w' => e = .returned (i6 (RemoveD D nm).2) ∧ DH w0 M d (RemoveD D nm).1 L w' := by
 obtain ⟨fl, nx, v, Lr, hfl, hK, hR, H0⟩ := hD
 go_enter Tryz.func49, Tryz.ntmps49
 refine zsr ?_;refine wl_make (c := #[pq d.q]) H0 23 ?_;intro q1 w2 h3;refine wl_make (c := #[.string nm]) h3 9 ?_;intro q4 w5 h6;refine zv (znt (zsr ?_));refine zwu (v := pq d.q) (run_load1 isAgg23 (((h6.get 1 rfl).cell 0).trans rfl)) ?_;refine zwu (v := .string nm) (run_load1 isAgg9 (((h6.get 0 rfl).cell 0).trans rfl)) ?_;refine zv ?_;refine wl_callx enter75 #[pq d.q, .string nm, .func (.func 100) #[] #[pq q1, pq q4]] (operateOn_any (D2 := remF (spendD D) nm) (er := 0) ⟨fl, nx, v, Lr, hfl, hK, hR, HA.back [(q4, 9, #[.string nm]), (q1, 23, #[pq d.q])] h6⟩ enter100 hb hN (Nat.le_trans hb.sz hN) (fun _ _ _ w A B f nx v Lr h1 h2 h3 h4 h5 => rem_deed h1 h2 h3 h4 h5 (b2 := q1) (b3 := q4) (by simp [pt]) (by simp) hb.rm)) ?_;rintro _ w7 ⟨rfl, hD2⟩;refine ⟨_, rfl, ?_⟩;refine zv (znt ?_);refine wp_ret ?_
 repeat first|refine zrt ?_|refine block_ret ?_
 exact zb ⟨rfl, DH.drop (A := [(q4, 9, #[.string nm]), (q1, 23, #[pq d.q])]) hD2⟩
theorem ren_arg {w0 : World} {M : ML} {d : Dk} {D : DS} {X : BL} {A B : List Fl} {f : Fl} {nm : ByteArray} {nx : Nat} {v : Value} {Lr : BL} {w : World} (hfl : (A ++ f :: B).map ab = D.fs) (hf : f.nm = nm) (hK : FK (A ++ f :: B) nx) (hR : Row 3 1 v D.sizes.length (D.sizes.map (i6 ·)) Lr) (H0 : HA ⟨w0, (d.r, .mp (eF (A ++ f :: B)) nx) :: M⟩ ((d.q, 78, dcell d.r D.free D.left D.down v) :: (Lr ++ (FB (A ++ f :: B) ++ X))) w) {b : ByteArray} {b3 b4 b5 : Nat} (hb3 : (b3, 23, #[pt d.q]) ∈ X) (hb4 : (b4, 9, #[.string nm]) ∈ X) (hb5 : (b5, 9, #[.string b]) ∈ X) (hnm : isNm b = false) :
  Calls prog 130 #[pt f.p, pt b5, pt b4, pt b3] w fun e w' => e = .returned (i6 (renT D nm b).2) ∧ DH w0 M d (renT D nm b).1 X w' := by
 go_enter Tryz.func130, Tryz.ntmps130
 refine zsr (zv (znt (wp_seq ?_)));refine wp_block ?_;refine zsr ?_;refine zwu (v := .string b) (run_load1 isAgg9 (((H0.blk (b5, 9, #[.string b]) (by simp [hb5])).cell 0).trans rfl)) ?_;refine wl_call (v := .bool false) H0 enter64 #[.string b] (by have := isName_any b w; rw [hnm] at this; exact this) ?_;intro w1 h2;refine zv (zv (znt (zct (zsr (zv (znt ?_))))));refine wp_ret ?_
 repeat first|refine zrt ?_|refine block_ret ?_
 exact zb (v := i6 2) ⟨by rw [renT, if_pos hnm], by rw [renT, if_pos hnm]; exact ⟨_, nx, v, Lr, hfl, hK, hR, h2⟩⟩
theorem ren_same {w0 : World} {M : ML} {d : Dk} {D : DS} {X : BL} {A B : List Fl} {f : Fl} {nm : ByteArray} {nx : Nat} {v : Value} {Lr : BL} {w : World} (hfl : (A ++ f :: B).map ab = D.fs) (hf : f.nm = nm) (hK : FK (A ++ f :: B) nx) (hR : Row 3 1 v D.sizes.length (D.sizes.map (i6 ·)) Lr) (H0 : HA ⟨w0, (d.r, .mp (eF (A ++ f :: B)) nx) :: M⟩ ((d.q, 78, dcell d.r D.free D.left D.down v) :: (Lr ++ (FB (A ++ f :: B) ++ X))) w) {b : ByteArray} {b3 b4 b5 : Nat} (hb3 : (b3, 23, #[pt d.q]) ∈ X) (hb4 : (b4, 9, #[.string nm]) ∈ X) (hb5 : (b5, 9, #[.string b]) ∈ X) (hnm : isNm b = true) (hs : nm = b) :
  Calls prog 130 #[pt f.p, pt b5, pt b4, pt b3] w fun e w' => e = .returned (i6 (renT D nm b).2) ∧ DH w0 M d (renT D nm b).1 X w' := by
 go_enter Tryz.func130, Tryz.ntmps130
 refine zsr (zv (znt (wp_seq ?_)));refine wp_block ?_;refine zsr ?_;refine zwu (v := .string b) (run_load1 isAgg9 (((H0.blk (b5, 9, #[.string b]) (by simp [hb5])).cell 0).trans rfl)) ?_;refine wl_call (v := .bool true) H0 enter64 #[.string b] (by have := isName_any b w; rw [hnm] at this; exact this) ?_;intro w1 h2;refine zv (zv (znt (zcf (zsr ?_))));refine zwu (v := .string nm) (run_load1 isAgg9 (((h2.blk (b4, 9, #[.string nm]) (by simp [hb4])).cell 0).trans rfl)) ?_;refine zwu (v := .string b) (run_load1 isAgg9 (((h2.blk (b5, 9, #[.string b]) (by simp [hb5])).cell 0).trans rfl)) ?_;refine zwu (run_eqs (s := nm) (t := b) true (dt hs)) ?_;refine zv (znt (zct (zsr (zv (znt ?_)))));refine wp_ret ?_
 repeat first|refine zrt ?_|refine block_ret ?_
 exact zb (v := i6 0) ⟨by rw [renT, if_neg (by rw [hnm]; decide), if_pos hs], by rw [renT, if_neg (by rw [hnm]; decide), if_pos hs]; exact ⟨_, nx, v, Lr, hfl, hK, hR, h2⟩⟩
theorem dl_mid {A B : List Fl} {f : Fl} {s : ByteArray} (h : f.nm ≠ s) : dlL (A ++ f :: B) s = dlL A s ++ f :: dlL B s := by simp [dlL, h]
theorem dlL_ne {fl : List Fl} {s : ByteArray} {f : Fl} (h : f ∈ dlL fl s) : f.nm ≠ s := of_decide_eq_true (List.mem_filter.1 h).2
theorem ren_go {w0 : World} {M : ML} {d : Dk} {D : DS} {X : BL} {A B : List Fl} {f : Fl} {nm : ByteArray} {nx : Nat} {v : Value} {Lr : BL} {w : World} (hfl : (A ++ f :: B).map ab = D.fs) (hf : f.nm = nm) (hK : FK (A ++ f :: B) nx) (hR : Row 3 1 v D.sizes.length (D.sizes.map (i6 ·)) Lr) (H0 : HA ⟨w0, (d.r, .mp (eF (A ++ f :: B)) nx) :: M⟩ ((d.q, 78, dcell d.r D.free D.left D.down v) :: (Lr ++ (FB (A ++ f :: B) ++ X))) w) {b : ByteArray} {b3 b4 b5 : Nat} (hb3 : (b3, 23, #[pt d.q]) ∈ X) (hb4 : (b4, 9, #[.string nm]) ∈ X) (hb5 : (b5, 9, #[.string b]) ∈ X) (hnm : isNm b = true) (hs : ¬ nm = b) (hrm : D.free + used D.fs ≤ 9223372036854775807) :
  Calls prog 130 #[pt f.p, pt b5, pt b4, pt b3] w fun e w' => e = .returned (i6 (renT D nm b).2) ∧ DH w0 M d (renT D nm b).1 X w' := by
 have hnl : b.size ≤ 1000000000 := by simp [isNm] at hnm; omega
 have hK2 := hK.dl b;rw [dl_mid (hf ▸ hs : f.nm ≠ b)] at hK2;have hnb : ∀ g ∈ dlL A b ++ dlL B b, g.nm ≠ b := fun g hg => by
  rcases List.mem_append.1 hg with hg | hg
  ·exact dlL_ne hg
  ·exact dlL_ne hg
 have hK3 := hK2.out.more (f := ⟨b, f.p, f.da, f.sy, f.v, f.Lr, nx⟩) hnb rfl (hK.row f (by simp)) (hK.syn f (by simp))
 go_enter Tryz.func130, Tryz.ntmps130
 refine zsr (zv (znt (wp_seq ?_)));refine wp_block ?_;refine zsr ?_;refine zwu (v := .string b) (run_load1 isAgg9 (((H0.blk (b5, 9, #[.string b]) (by simp [hb5])).cell 0).trans rfl)) ?_;refine wl_call (v := .bool true) H0 enter64 #[.string b] (by have := isName_any b w; rw [hnm] at this; exact this) ?_;intro w1 h2;refine zv (zv (znt (zcf (zsr ?_))));refine zwu (v := .string nm) (run_load1 isAgg9 (((h2.blk (b4, 9, #[.string nm]) (by simp [hb4])).cell 0).trans rfl)) ?_;refine zwu (v := .string b) (run_load1 isAgg9 (((h2.blk (b5, 9, #[.string b]) (by simp [hb5])).cell 0).trans rfl)) ?_;refine zwu (run_eqs (s := nm) (t := b) false (df hs)) ?_;refine zv (znt (zcf (wp_skip ?_)));refine block_normal ?_;refine zt (zsr ?_);refine zwu (v := pq d.q) (run_load1 isAgg23 (((h2.blk (b3, 23, #[pt d.q]) (by simp [hb3])).cell 0).trans rfl)) ?_;refine zwu (v := .string b) (run_load1 isAgg9 (((h2.blk (b5, 9, #[.string b]) (by simp [hb5])).cell 0).trans rfl)) ?_;refine wl_callx enter101 #[pq d.q, .string b] (drop_any (s := b) hK h2 (by rw [hfl]; exact hrm)) ?_;rintro _ w3 ⟨rfl, hdr⟩;refine ⟨_, rfl, ?_⟩;rw [dl_mid (hf ▸ hs : f.nm ≠ b)] at hdr;refine znt (wp_seq ?_);refine zxr (HA ⟨w0, (d.r, .mp (eF (dlL A b ++ f :: dlL B b)) nx) :: M⟩ ((d.q, 78, dcell d.r (D.free + used (keepF ((A ++ f :: B).map ab) b)) D.left D.down v) :: (Lr ++ (FB (dlL A b ++ f :: dlL B b) ++ X)))) (fun Z0 AQ w' => AQ = pts Z0 [(17, pt d.q), (18, pt d.q), (19, pt d.q), (20, .map (some d.r)), (21, .string nm)] ∧ HA ⟨w0, (d.r, .mp (eF (dlL A b ++ dlL B b)) nx) :: M⟩ ((d.q, 78, dcell d.r (D.free + used (keepF ((A ++ f :: B).map ab) b)) D.left D.down v) :: (Lr ++ (FB (dlL A b ++ f :: dlL B b) ++ X))) w') 6 (hdr.drew) ?_ ?_
 ·have h4 := hdr.drew;refine wx_val (i := 0) (pq d.q) rfl rfl (fun w' h' => run_load1 isAgg23 (((h'.blk (b3, 23, #[pt d.q]) (by simp [hb3])).cell 0).trans rfl)) ?_;refine zxp 1 rfl ?_;refine zxp 2 rfl ?_;refine wx_val (i := 3) (.map (some d.r)) rfl rfl (fun w' h' => run_load1 isAgg76 (((h'.get 0 rfl).cell 0).trans rfl)) ?_;refine wx_val (i := 4) (.string nm) rfl rfl (fun w' h' => run_load1 isAgg9 (((h'.blk (b4, 9, #[.string nm]) (by simp [hb4])).cell 0).trans rfl)) ?_;refine wx_one 5 ?_;refine ex_do rfl (by kernel_rfl) (by kernel_rfl) h4 fun w5 h6 => ⟨_, _, run_del (h6.old.maps _ (List.mem_cons_self ..)) hf (hf ▸ hK2.apartA) (by kernel_rfl) (by kernel_rfl), _, h6.setMap 0 rfl, ?_⟩
  have h7 : HA ⟨w0, (d.r, .mp (eF (dlL A b ++ dlL B b)) nx) :: M⟩ ((d.q, 78, dcell d.r (D.free + used (keepF ((A ++ f :: B).map ab) b)) D.left D.down v) :: (Lr ++ (FB (dlL A b ++ f :: dlL B b) ++ X))) _ := h6.setMap 0 rfl;refine wx_end fun w8 hbx _ => ?_
  have h9 := HA.keep _ _ h7 hbx;exact ⟨by kernel_rfl, h9⟩
 ·rintro _ w10 ⟨rfl, h11⟩;refine zt (wp_seq ?_);refine zxr (HA ⟨w0, (d.r, .mp (eF (dlL A b ++ dlL B b)) nx) :: M⟩ ((d.q, 78, dcell d.r (D.free + used (keepF ((A ++ f :: B).map ab) b)) D.left D.down v) :: (Lr ++ (FB (dlL A b ++ f :: dlL B b) ++ X)))) (fun Z0 AQ w' => AQ = pts Z0 [(22, pt d.q), (23, pt d.q), (24, pt d.q), (25, .map (some d.r)), (26, .string b), (27, .string b), (28, pt f.p)] ∧ HA ⟨w0, (d.r, .mp (eF (dlL A b ++ dlL B b ++ [⟨b, f.p, f.da, f.sy, f.v, f.Lr, nx⟩])) (nx + 1)) :: M⟩ ((d.q, 78, dcell d.r (D.free + used (keepF ((A ++ f :: B).map ab) b)) D.left D.down v) :: (Lr ++ (FB (dlL A b ++ f :: dlL B b) ++ X))) w') 8 (h11.drew) ?_ ?_
  ·have h12 := h11.drew;refine wx_val (i := 0) (pq d.q) rfl rfl (fun w' h' => run_load1 isAgg23 (((h'.blk (b3, 23, #[pt d.q]) (by simp [hb3])).cell 0).trans rfl)) ?_;refine zxp 1 rfl ?_;refine zxp 2 rfl ?_;refine wx_val (i := 3) (.map (some d.r)) rfl rfl (fun w' h' => run_load1 isAgg76 (((h'.get 0 rfl).cell 0).trans rfl)) ?_;refine wx_val (i := 4) (.string b) rfl rfl (fun w' h' => run_load1 isAgg9 (((h'.blk (b5, 9, #[.string b]) (by simp [hb5])).cell 0).trans rfl)) ?_;refine wx_call (i := 5) (.string b) (fun _ _ h hb => HA.keep _ _ h hb) rfl rfl enter61 #[.string b] (fun w' h' => sclone_any b w' hnl) ?_;refine zxp 6 rfl ?_;refine wx_one 7 ?_;refine ex_skip rfl h12 fun w13 h14 => ⟨_, run_upd (h14.old.maps _ (List.mem_cons_self ..)) hnb (by kernel_rfl) (by kernel_rfl) ⟨b, f.p, f.da, f.sy, f.v, f.Lr, nx⟩ rfl rfl (by kernel_rfl), _, h14.setMap 0 rfl, ?_⟩
   have h15 : HA ⟨w0, (d.r, .mp (eF (dlL A b ++ dlL B b ++ [⟨b, f.p, f.da, f.sy, f.v, f.Lr, nx⟩])) (nx + 1)) :: M⟩ ((d.q, 78, dcell d.r (D.free + used (keepF ((A ++ f :: B).map ab) b)) D.left D.down v) :: (Lr ++ (FB (dlL A b ++ f :: dlL B b) ++ X))) _ := h14.setMap 0 rfl;refine wx_end fun w16 hbx _ => ?_
   have h17 := HA.keep _ _ h15 hbx;exact ⟨by kernel_rfl, h17⟩
  ·rintro _ w18 ⟨rfl, h19⟩;refine zt (zsr (zv (znt ?_)));refine wp_ret ?_
   repeat first|refine zrt ?_|refine block_ret ?_
   refine zb (v := i6 0) ?_;rw [renT, if_neg (by rw [hnm]; decide), if_neg hs];refine ⟨rfl, dlL A b ++ dlL B b ++ [⟨b, f.p, f.da, f.sy, f.v, f.Lr, nx⟩], nx + 1, v, Lr, ?_, hK3, hR, ?_⟩
   ·have h1 := del_at hK2;have h2 := keep_yes hK2;rw [← dl_mid (hf ▸ hs : f.nm ≠ b), dlL_ab, hfl, hf] at h1 h2;rw [List.map_append, h1]
    simp only [renF, h2]
    rfl
   ·rw [hfl] at h19;refine h19.perm (List.Perm.cons _ (List.Perm.append_left Lr (List.Perm.append_right X ?_)));rw [FB_app, FB_app, FB_cons, FB_app]
    show (FB (dlL A b) ++ (fb f ++ FB (dlL B b))).Perm ((FB (dlL A b) ++ FB (dlL B b)) ++ (fb f ++ []))
    rw [List.append_nil, List.append_assoc];exact List.Perm.append_left _ List.perm_append_comm
theorem ren_deed {w0 : World} {M : ML} {d : Dk} {D : DS} {X : BL} {A B : List Fl} {f : Fl} {nm : ByteArray} {nx : Nat} {v : Value} {Lr : BL} {w : World} (hfl : (A ++ f :: B).map ab = D.fs) (hf : f.nm = nm) (hK : FK (A ++ f :: B) nx) (hR : Row 3 1 v D.sizes.length (D.sizes.map (i6 ·)) Lr) (H0 : HA ⟨w0, (d.r, .mp (eF (A ++ f :: B)) nx) :: M⟩ ((d.q, 78, dcell d.r D.free D.left D.down v) :: (Lr ++ (FB (A ++ f :: B) ++ X))) w) {b : ByteArray} {b3 b4 b5 : Nat} (hb3 : (b3, 23, #[pt d.q]) ∈ X) (hb4 : (b4, 9, #[.string nm]) ∈ X) (hb5 : (b5, 9, #[.string b]) ∈ X) (hrm : D.free + used D.fs ≤ 9223372036854775807) :
  Calls prog 130 #[pt f.p, pt b5, pt b4, pt b3] w fun e w' => e = .returned (i6 (renT D nm b).2) ∧ DH w0 M d (renT D nm b).1 X w' := by
 cases hnm : isNm b with
 | false => exact ren_arg hfl hf hK hR H0 hb3 hb4 hb5 hnm
 | true =>
  by_cases hs : nm = b
  ·exact ren_same hfl hf hK hR H0 hb3 hb4 hb5 hnm hs
  ·exact ren_go hfl hf hK hR H0 hb3 hb4 hb5 hnm hs hrm
theorem renT_sz (D : DS) (a b : ByteArray) : (renT D a b).1.sizes = D.sizes := by
 unfold renT
 split
 ·rfl
 ·split <;> rfl
theorem Rename_any {w0 : World} {M : ML} {d : Dk} {D : DS} {L : BL} {w : World} (hD : DH w0 M d D L w) (nm b : ByteArray) {U N : Nat} (hb : DB D U N) (hN : N ≤ 1000000000) :
  Calls prog 95 #[pt d.q, .string nm, .string b] w fun e w' => e = .returned (i6 (RenameD D nm b).2) ∧ DH w0 M d (RenameD D nm b).1 L w' := by
 obtain ⟨fl, nx, v, Lr, hfl, hK, hR, H0⟩ := hD
 go_enter Tryz.func95, Tryz.ntmps95
 refine zsr ?_;refine wl_make (c := #[pq d.q]) H0 23 ?_;intro q1 w2 h3;refine wl_make (c := #[.string nm]) h3 9 ?_;intro q4 w5 h6;refine wl_make (c := #[.string b]) h6 9 ?_;intro q7 w8 h9;refine zv (znt (zsr ?_));refine zwu (v := pq d.q) (run_load1 isAgg23 (((h9.get 2 rfl).cell 0).trans rfl)) ?_;refine zwu (v := .string nm) (run_load1 isAgg9 (((h9.get 1 rfl).cell 0).trans rfl)) ?_;refine zv ?_;refine wl_callx enter75 #[pq d.q, .string nm, .func (.func 130) #[] #[pq q7, pq q4, pq q1]] (operateOn_any (D2 := (renT (spendD D) nm b).1) (er := (renT (spendD D) nm b).2) ⟨fl, nx, v, Lr, hfl, hK, hR, HA.back [(q7, 9, #[.string b]), (q4, 9, #[.string nm]), (q1, 23, #[pq d.q])] h9⟩ enter130 hb hN (by rw [renT_sz]; exact Nat.le_trans hb.sz hN) (fun _ _ _ w A B f nx v Lr h1 h2 h3 h4 h5 => ren_deed h1 h2 h3 h4 h5 (b5 := q7) (b4 := q4) (b3 := q1) (by simp [pt]) (by simp) (by simp) hb.rm)) ?_;rintro _ w10 ⟨rfl, hD2⟩;refine ⟨_, rfl, ?_⟩;refine zv (znt ?_);refine wp_ret ?_
 repeat first|refine zrt ?_|refine block_ret ?_
 exact zb ⟨rfl, DH.drop (A := [(q7, 9, #[.string b]), (q4, 9, #[.string nm]), (q1, 23, #[pq d.q])]) hD2⟩
end Go.Proofs.YtckmlaempffpjaaGreat
namespace Go.Proofs.YtckmlaempffpjaaGreat
set_option maxHeartbeats 1000000
open Go.RowKit Go.Shelf Go.Maps Go.Proofs.Tryz
def srtL (fs : List FA) : List (List UInt8) := (fs.map fun x => bl x.nm).mergeSort leB
def D0 (fl : List Fl) : DataW Unit := .map ((fl.map fun f => (Lit.string (bl f.nm), DataW.nil)).foldr DataW.insert [])
theorem rg_ent (f : Fl) (h : f.nm.size ≤ 64) : WideElems.rg (H := Unit) prog 9 (fun _ => some (.nil, [])) (ent f) = (.string (bl f.nm), .nil) := by
 have := Go.WideMaps.keyOf_string_mk (P := prog) underlying9 (s := f.nm) (by simp only [maxLen]; omega)
 simp [WideElems.rg, WideElems.rd, ent, this, bl]
theorem owns_F {fl : List Fl} {nx r : Nat} {w : World} (hK : FK fl nx) (hs : ∀ f ∈ fl, f.nm.size ≤ 64) (hl : fl.length ≤ 1000000000) (hb : w.heap[r]? = some (.map (eF fl) nx)) :
  w.ownsMap (H := Unit) prog 9 (fun _ => some (.nil, [])) r fl.length (D0 fl) := by
 refine ⟨eF fl, nx, hb, ⟨?_, ⟨fun x hx => ?_, ?_, ?_⟩, fun x hx => ?_⟩, by simp [eF], ?_⟩
 ·simp only [eF, List.size_toArray, List.length_map, maxLen]; omega
 ·obtain ⟨f, hf, rfl⟩ := List.mem_map.1 (show x ∈ fl.map ent by simpa [eF] using hx);exact hK.old f hf
 ·have := hK.bns
  simpa [eF, ent, Function.comp_def] using this
 ·have h2 : ((eF fl).toList.map (·.key)) = (fl.map (·.nm)).map Value.string := by simp [eF, ent, Function.comp_def]
  rw [h2];exact List.pairwise_map.2 (hK.nms.imp fun h e => h (by simpa using e))
 ·obtain ⟨f, hf, rfl⟩ := List.mem_map.1 (show x ∈ fl.map ent by simpa [eF] using hx);have := Go.WideMaps.keyOf_string_mk (P := prog) underlying9 (s := f.nm) (by have := hs f hf; simp only [maxLen]; omega);exact ⟨_, by simp only [WideElems.rd, ent, this]; rfl⟩
 ·have e : (eF fl).toList.map (WideElems.rg (H := Unit) prog 9 (fun _ => some (.nil, []))) = fl.map fun f => (Lit.string (bl f.nm), DataW.nil) := by
   rw [eF, List.map_map];refine List.map_congr_left fun f hf => ?_
   rw [Function.comp_apply, rg_ent f (hs f hf)]
  rw [e, D0]
theorem strKeys_D0 (fl : List Fl) : (strKeys (D0 fl)).Perm (fl.map fun f => bl f.nm) := by
 have h := (WideShapes.sorted_perm (fl.map fun f => (Lit.string (bl f.nm), (DataW.nil : DataW Unit)))).map (fun p => strOf p.1);rw [List.map_map] at h;exact h
theorem size_D0 (fl : List Fl) : Maps.size (D0 fl) = fl.length := by
 simp only [D0, Maps.size_eq, length_sorted, List.length_map]
theorem sortsA (m : Nat) : AnyZ.SortsIn prog Tryz.sortedA_ren Fence.wide m :=
  ⟨fun blk off cap ss W hH hblk hsz => callsIn_wide.2 (AnyM.slices_Sort_string Tryz.sortA blk off cap ss W hH hblk hsz),
   fun p cap W => callsIn_wide.2 (AnyM.slices_Sort_string_none Tryz.sortA p cap W)⟩
theorem keys_any (r : Nat) (w : World) : Calls prog 59 #[.map (some r)] w fun e w' => e = .returned (.func (.func 108) #[] #[pq w.heap.size]) ∧ w' = w.alloc (.cells #[.map (some r)] 76) :=
 (callsIn_wide (n := 5)).1 (AnyZ.keys_in Tryz.keysA Fence.wide 5 trivial rfl (some r) w)
theorem sorted_any {fl : List Fl} {nx r b : Nat} {w : World} (hK : FK fl nx) (hs : ∀ f ∈ fl, f.nm.size ≤ 64) (hl : fl.length ≤ 1000000000) (hb : w.heap[r]? = some (.map (eF fl) nx)) (hc : Blk w b 76 #[.map (some r)]) :
  Calls prog 58 #[.func (.func 108) #[] #[pq b]] w fun e w' => ∃ v, e = .returned v ∧ w'.ownsRow w.heap.size 9 1 v fl.length ((srtL (fl.map ab)).map encStr) ∧ Below w.heap.size w w' := by
 refine (callsIn_wide (n := 5)).1 ?_;have hseq : SeqGives Fence.wide 2 prog 108 #[pq b] encStr (fun ss => ss.Perm (strKeys (D0 fl))) (Maps.size (D0 fl)) w :=
  AnyZ.keys_gives (ρ := Tryz.keysA_ren) { Tryz.keysA with } Fence.wide _ trivial rfl (by omega) b r fl.length (D0 fl) w hc.lt (by rw [hc.cell 0]; rfl) (owns_F hK hs hl hb)
 have cS := AnyZ.sorted_in Tryz.sortedA Fence.wide 5 trivial trivial trivial trivial rfl (by omega) (sortsA _) (enters_of Tryz.func67 (by kernel_rfl) rfl) 108 #[pq b] trivial (enters_of Tryz.func108 (by kernel_rfl) rfl) _ _ (by rw [size_D0]; simp only [maxLen]; omega) (by rw [size_D0]; omega) _ hseq
 change CallsIn _ _ prog 58 _ _ _ at cS
 refine cS.mono ?_;rintro e w' ⟨v, ss, rfl, hp, hrow, _, hbl⟩;have hp2 : ss.Perm (fl.map fun f => bl f.nm) := hp.trans (strKeys_D0 fl);have e1 : ss.mergeSort (fun x y => decide (x ≤ y)) = srtL (fl.map ab) := by
  rw [srtL, List.map_map];exact mergeSort_of_perm hp2
 have e2 : ss.length = fl.length := by rw [hp2.length_eq, List.length_map]
 rw [e1, e2] at hrow;exact ⟨v, rfl, hrow, hbl⟩
theorem HA.owned {z : Base} {L : BL} {w w' : World} {e : TypeId} {v : Value} {n : Nat} {xs : List Value} (H : HA z L w) (hb : Below w.heap.size w w') (h : w'.ownsRow w.heap.size e 1 v n xs) : ∃ Lr, Row e 1 v n xs Lr ∧ HA z (Lr ++ L) w' := by
 have H' := H.keep _ _ hb;refine ⟨match v with | .slice (some a) _ _ => (match w'.heap[a.block]? with | some (.cells c _ _) => [(a.block, e, c)] | _ => []) | _ => [], ?_⟩;obtain ⟨h1, h2⟩ := h
 rcases h2 with ⟨rfl, rfl⟩ | ⟨g, cap, cur, rfl, hg, hh, k1, k2, k3, k4⟩
 ·exact ⟨⟨h1, .inl ⟨rfl, rfl, rfl⟩⟩, H'⟩
 ·simp only [hh]
  refine ⟨⟨h1, .inr ⟨g, cap, cur, rfl, rfl, k1, k2, k3, k4⟩⟩, H'.consNew ⟨(0, 0), hh, .inl rfl⟩ (Nat.le_trans H.size hg) (fun x hx => ?_)⟩;have := (H.blk x hx).lt
  omega
theorem run_textB {ρ : Operand → Value} {x : Operand} {w : World} {dst : Option Tmp} {ty : TypeId} {pos : String} {aft : Array Edge} {gd : Option (Nat × Bool)} {v : Value} {da : List UInt8} {Lr : BL} (h : RowB v da Lr) (hB : ∀ y ∈ Lr, Blk w y.1 y.2.1 y.2.2) (hx : ρ x = v) :
  (execOp ρ ⟨dst, .convert 62 9 x, ty, pos, aft, gd⟩).run prog w = .ok (.value (.string ⟨da.toArray⟩)) w := by
 rcases h with ⟨rfl, rfl, rfl⟩ | ⟨g, cap, cur, rfl, rfl, k1, k2, k3, k4⟩
 ·simp only [execOp, hx]
  have e : (convert 62 9 (.slice none 0 0)).run prog w = .ok (.string { data := #[] }) w := by kernel_rfl
  rw [Sem.run_bind, e]
  rfl
 ·have := run_textg (dst := dst) (ty := ty) (pos := pos) (aft := aft) (gd := gd) hx (hB (g, 5, bc cur) (by simp)) (by omega);rw [this, k4]
end Go.Proofs.YtckmlaempffpjaaGreat
