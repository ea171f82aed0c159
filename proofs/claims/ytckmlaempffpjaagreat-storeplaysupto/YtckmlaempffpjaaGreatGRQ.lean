/-
 Both disks are one: Append, Rename; what is read.
-/
import Derived.Test.YtckmlaempffpjaaGreatGR11
namespace Go.Proofs.YtckmlaempffpjaaGreat
open Go.RowKit Go.Proofs.Tryz
theorem srt_names {fs : List RF} (h : SrtF fs) : (fs.map (·.nm)).Nodup := by
 unfold List.Nodup
 rw [List.pairwise_map];exact h.imp fun {a b} hab e => by rw [e] at hab; exact absurd hab Std.lt_irrefl
theorem Tw.names {D : DS} {rm lf : Nat} {fs : List RF} {dn : Bool} {zs : List Nat} (h : Tw D rm fs dn lf zs) : (D.fs.map (·.nm)).Nodup := by
 have e : (fs.map fa).map (·.nm) = fs.map (·.nm) := by rw [List.map_map]; rfl
 rw [← (h.prm.map (·.nm)).nodup_iff, e];exact srt_names h.srt
theorem bl_app (a b : ByteArray) : bl (a ++ b) = bl a ++ bl b := by simp [bl]
theorem Tw.appOld {D : DS} {rm lf i : Nat} {fs : List RF} {dn : Bool} {zs : List Nat} {s da bb : ByteArray} {f : RF} (h : Tw D rm fs dn lf zs) (hf : findR fs s = (i, true)) (hi : fs[i]? = some f) (hfr : da.size ≤ D.free) (hbb : bb = f.b ++ da) : Tw { D with fs := updF (mkF D.fs s) s (fun x => { x with da := x.da ++ bl da }), free := D.free - da.size } rm (withR fs ⟨f.nm, bb, f.sy⟩) dn lf zs := by
 have hin := h.isIn hf;obtain ⟨f0, h1, h2⟩ := findR_yes hf;rw [hi] at h1
 cases h1
 have e : mkF D.fs s = D.fs := by unfold mkF; rw [if_pos hin]
 rw [e];refine Tw.upd (g := fun x => { x with da := x.da ++ bl da }) h hf hi h2 (by simp [fa, hbb, bl_app]) ?_;rw [used_app h.names hin, bl_len];have := h.free
 omega
theorem Tw.appNew {D : DS} {rm lf i : Nat} {fs : List RF} {dn : Bool} {zs : List Nat} {s da bb : ByteArray} (h : Tw D rm fs dn lf zs) (hf : findR fs s = (i, false)) (hfr : da.size ≤ D.free) (hbb : bb = { data := #[] } ++ da) : Tw { D with fs := updF (mkF D.fs s) s (fun x => { x with da := x.da ++ bl da }), free := D.free - da.size } rm (withR fs ⟨s, bb, 0⟩) dn lf zs := by
 have hno := h.notIn hf;have hno2 := findR_no h.srt hf;have e0 : bl bb = bl da := by rw [hbb, bl_app]; rfl
 have e1 : updF (mkF D.fs s) s (fun x => { x with da := x.da ++ bl da }) = D.fs ++ [⟨s, bl da, 0⟩] := by
  unfold mkF
  rw [if_neg hno];have : updF (D.fs ++ [⟨s, [], 0⟩]) s (fun x => { x with da := x.da ++ bl da }) = updF D.fs s (fun x => { x with da := x.da ++ bl da }) ++ [⟨s, bl da, 0⟩] := by simp [updF]
  rw [this, updF_no (fun x hx e => hno ⟨x, hx, e⟩)]
 rw [e1];refine ⟨by rw [withR_eq]; exact insR_srt h.srt, ?_, ?_, h.sz, h.edn, h.elf, h.dl⟩
 ·rw [withR_eq];refine ((insR_new (f := ⟨s, bb, 0⟩) hno2).map fa).trans ?_;rw [List.map_append];have : ([⟨s, bb, 0⟩] : List RF).map fa = [⟨s, bl da, 0⟩] := by simp [fa, e0]
  rw [this];exact h.prm.append_right _
 ·have : used (D.fs ++ [⟨s, bl da, 0⟩]) = used D.fs + da.size := by simp [used, bl_len]
  have h2 := h.free
  show D.free - da.size + used (D.fs ++ [⟨s, bl da, 0⟩]) = rm
  omega
theorem getF_some {fs : List FA} {x : FA} (hn : (fs.map (·.nm)).Nodup) (hx : x ∈ fs) : getF fs x.nm = some x := by
 induction fs with
 | nil => cases hx
 | cons g fs ih =>
  rw [List.map_cons, List.nodup_cons] at hn
  unfold getF at ih ⊢
  rw [List.find?_cons]
  rcases List.mem_cons.1 hx with rfl | hx'
  ·simp
  ·have : g.nm ≠ x.nm := fun e => hn.1 (e ▸ List.mem_map_of_mem (f := (·.nm)) hx')
   rw [decide_eq_false this];exact ih hn.2 hx'
theorem Tw.get {D : DS} {rm lf i : Nat} {fs : List RF} {dn : Bool} {zs : List Nat} {s : ByteArray} {f : RF} (h : Tw D rm fs dn lf zs) (hf : findR fs s = (i, true)) (hi : fs[i]? = some f) : getF D.fs s = some (fa f) := by
 obtain ⟨f0, h1, h2⟩ := findR_yes hf;rw [hi] at h1
 cases h1
 have := getF_some h.names (h.prm.mem_iff.1 (List.mem_map_of_mem (f := fa) (List.mem_of_getElem? hi)))
 rwa [show (fa f).nm = s from h2] at this
theorem Tw.getNo {D : DS} {rm lf i : Nat} {fs : List RF} {dn : Bool} {zs : List Nat} {s : ByteArray} (h : Tw D rm fs dn lf zs) (hf : findR fs s = (i, false)) : getF D.fs s = none := by
 unfold getF
 refine List.find?_eq_none.2 fun x hx => ?_
 have := h.notIn hf
 simp only [decide_eq_true_eq]
 exact fun e => this ⟨x, hx, e⟩
theorem used_fa (fs : List RF) : used (fs.map fa) = sumB fs fs.length := by
 unfold used sumB
 rw [List.take_length, List.map_map]
 congr 1
theorem Tw.room {D : DS} {rm lf : Nat} {fs : List RF} {dn : Bool} {zs : List Nat} (h : Tw D rm fs dn lf zs) : sumB fs fs.length ≤ rm ∧ rm - sumB fs fs.length = D.free := by
 have h1 := h.free;rw [← used_perm h.prm, used_fa] at h1
 omega
theorem filter_all {fs : List RF} {s : ByteArray} (h : ∀ x ∈ fs, x.nm ≠ s) : (fs.filter fun x => decide (x.nm ≠ s)) = fs := List.filter_eq_self.2 fun x hx => decide_eq_true (h x hx)
theorem insR_gen {f : RF} : ∀ {fs : List RF}, SrtF fs → (insR fs f).Perm ((fs.filter fun x => decide (x.nm ≠ f.nm)) ++ [f])
 | [], _ => List.Perm.refl _
 | g :: fs, hs => by
  obtain ⟨h1, h2⟩ := List.pairwise_cons.1 hs;rw [insR]
  by_cases he : g.nm = f.nm
  ·rw [if_pos ((geN_iff _ _).2 (by rw [he]; exact Std.lt_irrefl)), if_pos he, List.filter_cons_of_neg (by simp [he]), filter_all (fun x hx e => by have := h1 x hx; rw [e, he] at this; exact absurd this Std.lt_irrefl)];exact (List.perm_append_singleton f fs).symm
  ·rw [List.filter_cons_of_pos (by simp [he])]
   by_cases hg : geN g.nm f.nm = true
   ·have hlt := lt_of_ge_ne ((geN_iff _ _).1 hg) he;rw [if_pos hg, if_neg he, filter_all (fun x hx e => by have := Std.lt_trans hlt (h1 x hx); rw [e] at this; exact absurd this Std.lt_irrefl)];exact (List.perm_append_singleton f (g :: fs)).symm
   ·rw [if_neg hg];exact List.Perm.cons _ (insR_gen h2)
theorem keep_one {fs : List FA} {x : FA} (hn : (fs.map (·.nm)).Nodup) (hx : x ∈ fs) : keepF fs x.nm = [x] := by
 induction fs with
 | nil => cases hx
 | cons g fs ih =>
  rw [List.map_cons, List.nodup_cons] at hn
  unfold keepF at ih ⊢
  rcases List.mem_cons.1 hx with rfl | hx'
  ·rw [List.filter_cons_of_pos (by simp)]
   congr 1
   refine List.filter_eq_nil_iff.2 fun y hy => ?_
   simp only [decide_eq_true_eq]
   exact fun e => hn.1 (e ▸ List.mem_map_of_mem (f := (·.nm)) hy)
  ·have : g.nm ≠ x.nm := fun e => hn.1 (e ▸ List.mem_map_of_mem (f := (·.nm)) hx')
   rw [List.filter_cons_of_neg (by simp [this])];exact ih hn.2 hx'
theorem del_fa (fs : List RF) (s : ByteArray) : (fs.filter fun x => decide (x.nm ≠ s)).map fa = delF (fs.map fa) s := by
 rw [delF, List.filter_map]
 rfl
theorem woR_ne (fs : List RF) (s : ByteArray) : woR fs s fs.length = fs.filter fun x => decide (x.nm ≠ s) := by
 rw [woR_all];refine List.filter_congr fun x _ => ?_
 by_cases e : x.nm = s <;> simp [e]
theorem Tw.renSame {D : DS} {rm lf i : Nat} {fs : List RF} {dn : Bool} {zs : List Nat} {a : ByteArray} {f : RF} (h : Tw D rm fs dn lf zs) (hf : findR fs a = (i, true)) (hi : fs[i]? = some f) : Tw D rm (withR (woR fs a fs.length) ⟨a, f.b, f.sy⟩) dn lf zs := by
 obtain ⟨f0, h1, h2⟩ := findR_yes hf;rw [hi] at h1
 cases h1
 have hm := List.mem_of_getElem? hi;have hs : SrtF (woR fs a fs.length) := by rw [woR_ne]; exact List.Pairwise.filter _ h.srt
 refine ⟨by rw [withR_eq]; exact insR_srt hs, ?_, h.free, h.sz, h.edn, h.elf, h.dl⟩;rw [withR_eq];refine ((insR_new (f := ⟨a, f.b, f.sy⟩) (fun g hg => by rw [woR_ne] at hg; exact of_decide_eq_true (List.mem_filter.1 hg).2)).map fa).trans ?_;rw [List.map_append, woR_ne, del_fa];have e : ([⟨a, f.b, f.sy⟩] : List RF).map fa = keepF (fs.map fa) a := by
  have hn : ((fs.map fa).map (·.nm)).Nodup := by rw [List.map_map]; exact srt_names h.srt
  have := keep_one hn (List.mem_map_of_mem (f := fa) hm);rw [show (fa f).nm = a from h2] at this;rw [this, ← h2]
  rfl
 rw [e];have : (delF (fs.map fa) a ++ keepF (fs.map fa) a).Perm (fs.map fa) := by
  have := List.filter_append_perm (fun x : FA => decide (x.nm ≠ a)) (fs.map fa);refine List.Perm.trans ?_ this
  unfold delF keepF
  refine List.Perm.append_left _ (List.Perm.of_eq (List.filter_congr fun x _ => ?_))
  by_cases e : x.nm = a <;> simp [e]
 exact this.trans h.prm
theorem used_app2 (a b : List FA) : used (a ++ b) = used a + used b := by simp [used]
theorem used_nm (l : List FA) (b : ByteArray) : used (l.map fun x => { x with nm := b }) = used l := by unfold used; rw [List.map_map]; rfl
theorem Tw.ren {D : DS} {rm lf i : Nat} {fs : List RF} {dn : Bool} {zs : List Nat} {a b : ByteArray} {f : RF} (h : Tw D rm fs dn lf zs) (hf : findR fs a = (i, true)) (hi : fs[i]? = some f) (hab : a ≠ b) : Tw (renF D a b) rm (withR (woR fs a fs.length) ⟨b, f.b, f.sy⟩) dn lf zs := by
 obtain ⟨f0, h1, h2⟩ := findR_yes hf;rw [hi] at h1
 cases h1
 have hm := List.mem_of_getElem? hi;have hs : SrtF (woR fs a fs.length) := by rw [woR_ne]; exact List.Pairwise.filter _ h.srt
 refine ⟨by rw [withR_eq]; exact insR_srt hs, ?_, ?_, h.sz, h.edn, h.elf, h.dl⟩
 ·rw [withR_eq];refine ((insR_gen (f := ⟨b, f.b, f.sy⟩) hs).map fa).trans ?_;rw [List.map_append, del_fa, woR_ne, del_fa];have hn : ((fs.map fa).map (·.nm)).Nodup := by rw [List.map_map]; exact srt_names h.srt
  have hn2 : ((delF (fs.map fa) b).map (·.nm)).Nodup := (List.Sublist.map _ List.filter_sublist).nodup hn;have hmd : fa f ∈ delF (fs.map fa) b := List.mem_filter.2 ⟨List.mem_map_of_mem (f := fa) hm, decide_eq_true (fun e => hab (h2.symm.trans e))⟩;have hk := keep_one hn2 hmd;rw [show (fa f).nm = a from h2] at hk;have hp1 : (delF (fs.map fa) b).Perm (delF D.fs b) := h.prm.filter _;have hk2 : (keepF (delF D.fs b) a).Perm [fa f] := by rw [← hk]; exact (hp1.filter _).symm
  show (delF (delF (fs.map fa) a) b ++ [fa ⟨b, f.b, f.sy⟩]).Perm (delF (delF D.fs b) a ++ (keepF (delF D.fs b) a).map (fun x => { x with nm := b }))
  have hq := (hk2.map (fun x : FA => ({ x with nm := b } : FA))).symm;refine List.Perm.append ?_ hq;have : delF (delF (fs.map fa) a) b = delF (delF (fs.map fa) b) a := by
   unfold delF
   rw [List.filter_filter, List.filter_filter];refine List.filter_congr fun x _ => Bool.and_comm ..
  rw [this];exact hp1.filter _
 ·have e1 := used_split D.fs b;have e2 := used_split (delF D.fs b) a;have h3 := h.free
  show D.free + used (keepF D.fs b) + used (delF (delF D.fs b) a ++ (keepF (delF D.fs b) a).map (fun x => { x with nm := b })) = rm
  rw [used_app2, used_nm]
  omega
theorem srtL_rf {D : DS} {rm lf : Nat} {fs : List RF} {dn : Bool} {zs : List Nat} (h : Tw D rm fs dn lf zs) : srtL D.fs = fs.map fun f => bl f.nm := by
 have hp : (D.fs.map fun x => bl x.nm).Perm (fs.map fun f => bl f.nm) := by
  have := (h.prm.map (fun x : FA => bl x.nm)).symm
  rwa [List.map_map] at this
 unfold srtL
 rw [mergeSort_of_perm hp];refine List.mergeSort_of_pairwise ?_;rw [List.pairwise_map];exact h.srt.imp fun {a b} hab => decide_eq_true (Std.le_of_lt hab)
theorem cut_fa {f : RF} (z : Int) (hs : f.sy ≤ f.b.size) : cutA (fa f) z = fa (cutR f z) := by
 have hle := stayN_le z (f.b.size - f.sy);have hl : (bl f.b).length = f.b.size := bl_len f.b
 unfold cutA cutR
 simp only [fa, hl]
 have e : (f.b.extract 0 (f.sy + stayN z (f.b.size - f.sy))).size = f.sy + stayN z (f.b.size - f.sy) := by rw [ByteArray.size_extract]; omega
 rw [e]
 congr 1
 simp [bl]
theorem rank_rf {D : DS} {rm lf i : Nat} {fs : List RF} {dn : Bool} {zs : List Nat} {f : RF} (h : Tw D rm fs dn lf zs) (hi : fs[i]? = some f) : rankF D.fs f.nm = i := by
 refine rank_at h.names ?_;rw [srtL_rf h, List.getElem?_map, hi]
 rfl
theorem Tw.wake {D : DS} {rm lf : Nat} {fs : List RF} {dn : Bool} {zs : List Nat} (h : Tw D rm fs dn lf zs) (ks : List Int) (hsyn : ∀ f ∈ fs, f.sy ≤ f.b.size) : Tw (wakeD D ks) rm (wkR fs ks fs.length) false 0 zs := by
 have hlen : D.fs.length = fs.length := by rw [← h.prm.length_eq, List.length_map]
 have e0 : wkR fs ks fs.length = fs.mapIdx fun i f => cutR f (ks.getD i 0) := by
  unfold wkR
  exact List.take_of_length_le (by rw [List.length_mapIdx]; exact Nat.le_refl _)
 refine ⟨?_, ?_, ?_, h.sz, rfl, rfl, fun e => by cases e⟩
 ·rw [e0]
  unfold SrtF
  rw [List.pairwise_iff_getElem];intro i j hi hj hij;rw [List.getElem_mapIdx, List.getElem_mapIdx];rw [List.length_mapIdx] at hi hj;exact (List.pairwise_iff_getElem.1 h.srt) i j hi hj hij
 ·show ((wkR fs ks fs.length).map fa).Perm (wkK D.fs ks D.fs.length)
  have e1 : (wkR fs ks fs.length).map fa = (fs.map fa).map fun x => if rankF D.fs x.nm < D.fs.length then cutA x (ks.getD (rankF D.fs x.nm) 0) else x := by
   rw [e0];refine List.ext_getElem? fun i => ?_
   rw [List.getElem?_map, List.getElem?_mapIdx, List.getElem?_map, List.getElem?_map]
   cases hi : fs[i]? with
   | none => rfl
   | some f =>
    have hr := rank_rf h hi;have hl := (List.getElem?_eq_some_iff.1 hi).1
    simp only [Option.map_some]
    rw [show (fa f).nm = f.nm from rfl, hr, if_pos (by omega), cut_fa _ (hsyn f (List.mem_of_getElem? hi))]
  rw [e1];exact h.prm.map _
 ·have h1 := wk_used D.fs ks D.fs.length;have h2 := h.free
  show D.free + used D.fs - used (wkK D.fs ks D.fs.length) + used (wkK D.fs ks D.fs.length) = rm
  omega
theorem pfR_eq (a p : ByteArray) : pfR a p = pfx a p := by
 have hb : ∀ x : ByteArray, (bl x).length = x.size := bl_len
 unfold pfR pfx Lib.hasPrefix
 rw [Bool.eq_iff_iff, Bool.and_eq_true, decide_eq_true_eq, decide_eq_true_eq, List.isPrefixOf_iff_prefix];have e : bl (a.extract 0 p.size) = (bl a).take p.size := by simp [bl]
 constructor
 ·rintro ⟨_, h⟩;rw [← h, e];exact List.take_prefix _ _
 ·intro h;have hl := h.length_le;rw [hb, hb] at hl;refine ⟨hl, bl_inj ?_⟩;rw [e, ← hb p];exact (List.prefix_iff_eq_take.1 h).symm
theorem Tw.list {D : DS} {rm lf : Nat} {fs : List RF} {dn : Bool} {zs : List Nat} (h : Tw D rm fs dn lf zs) (p : ByteArray) : lstL D.fs p = (rl fs p fs.length).map bl := by
 have e : (rl fs p fs.length).map bl = ((fs.map fa).filter fun x => pfx x.nm p).map fun x => bl x.nm := by
  unfold rl
  rw [List.take_length, List.map_map, List.filter_map, List.map_map]
  congr 1
  refine List.filter_congr fun f _ => ?_
  exact pfR_eq _ _
 have hp : ((D.fs.filter fun x => pfx x.nm p).map fun x => bl x.nm).Perm ((rl fs p fs.length).map bl) := by
  rw [e];exact ((h.prm.filter _).map _).symm
 unfold lstL
 rw [mergeSort_of_perm hp];refine List.mergeSort_of_pairwise ?_
 unfold rl
 rw [List.take_length, List.map_map, List.pairwise_map];exact (List.Pairwise.filter _ h.srt).imp fun {a b} hab => decide_eq_true (Std.le_of_lt hab)
section
variable {D : DS} {rm lf l' : Nat} {fs : List RF} {dn d' : Bool} {zs : List Nat} (h : Tw D rm fs dn lf zs)
include h
theorem Tw.stops (hg : gateL dn lf = (l', d', false)) (D2 : DS) (put er : Nat) : opD D D2 put er = (spendD D, 16) ∧ Tw (spendD D) rm fs d' l' zs := by
 obtain ⟨h1, h2⟩ := h.gate hg;have hd : d' = true := by
  cases d' with
  | true => rfl
  | false => exact absurd h2 (by decide)
 exact ⟨by unfold opD; rw [if_pos (h1.edn.trans hd)], h1⟩
theorem Tw.goes (hg : gateL dn lf = (l', false, true)) (D2 : DS) (put er : Nat) : opD D D2 put er = (if er = 0 then ({ D2 with sizes := D2.sizes ++ [put] }, 0) else (D2, er)) ∧ Tw (spendD D) rm fs false l' zs := by
 obtain ⟨h1, _⟩ := h.gate hg;exact ⟨by unfold opD; rw [if_neg (by rw [h1.edn]; decide)], h1⟩
theorem Tw.remY {s : ByteArray} {i : Nat} (hg : gateL dn lf = (l', false, true)) (hf : findR fs s = (i, true)) : (RemoveD D s).2 = 0 ∧ Tw (RemoveD D s).1 rm (woR fs s fs.length) false l' (zs ++ [0]) := by
 have h1 := (h.goes hg (onD (spendD D) (remF (spendD D) s) s 0).1 (onD (spendD D) (remF (spendD D) s) s 0).2.1 (onD (spendD D) (remF (spendD D) s) s 0).2.2);have e : onD (spendD D) (remF (spendD D) s) s 0 = (remF (spendD D) s, 0, 0) := by unfold onD; rw [if_pos (h1.2.isIn hf)]
 unfold RemoveD OnD
 rw [h1.1, e];exact ⟨rfl, (h1.2.rem s).told⟩
theorem Tw.syncY {s : ByteArray} {i : Nat} {f : RF} (hg : gateL dn lf = (l', false, true)) (hf : findR fs s = (i, true)) (hi : fs[i]? = some f) : (SyncD D s).2 = 0 ∧ Tw (SyncD D s).1 rm (withR fs ⟨f.nm, f.b, f.b.size⟩) false l' (zs ++ [0]) := by
 have h1 := (h.goes hg (onD (spendD D) (syncF (spendD D) s) s 0).1 (onD (spendD D) (syncF (spendD D) s) s 0).2.1 (onD (spendD D) (syncF (spendD D) s) s 0).2.2);have e : onD (spendD D) (syncF (spendD D) s) s 0 = (syncF (spendD D) s, 0, 0) := by unfold onD; rw [if_pos (h1.2.isIn hf)]
 unfold SyncD OnD
 rw [h1.1, e];exact ⟨rfl, (h1.2.sync hf hi).told⟩
theorem Tw.onN {s : ByteArray} {i : Nat} (hg : gateL dn lf = (l', false, true)) (hf : findR fs s = (i, false)) (D2 : DS) (er : Nat) : OnD D D2 s er = (spendD D, 5) ∧ Tw (spendD D) rm fs false l' zs := by
 have h1 := (h.goes hg (onD (spendD D) D2 s er).1 (onD (spendD D) D2 s er).2.1 (onD (spendD D) D2 s er).2.2);have e : onD (spendD D) D2 s er = (spendD D, 0, 5) := by unfold onD; rw [if_neg (h1.2.notIn hf)]
 unfold OnD
 rw [h1.1, e];exact ⟨rfl, h1.2⟩
theorem Tw.onG {s : ByteArray} (hg : gateL dn lf = (l', d', false)) (D2 : DS) (er : Nat) : OnD D D2 s er = (spendD D, 16) ∧ Tw (spendD D) rm fs d' l' zs := h.stops hg _ _ _
theorem Tw.renA {a b : ByteArray} {i : Nat} (hg : gateL dn lf = (l', false, true)) (hf : findR fs a = (i, true)) (hn : isNm b = false) : RenameD D a b = (spendD D, 2) ∧ Tw (spendD D) rm fs false l' zs := by
 have h1 := (h.goes hg (onD (spendD D) (renT (spendD D) a b).1 a (renT (spendD D) a b).2).1 (onD (spendD D) (renT (spendD D) a b).1 a (renT (spendD D) a b).2).2.1 (onD (spendD D) (renT (spendD D) a b).1 a (renT (spendD D) a b).2).2.2);have e : onD (spendD D) (renT (spendD D) a b).1 a (renT (spendD D) a b).2 = (spendD D, 0, 2) := by unfold onD renT; rw [if_pos (h1.2.isIn hf), if_pos hn]
 unfold RenameD OnD
 rw [h1.1, e];exact ⟨rfl, h1.2⟩
theorem Tw.renY {a b : ByteArray} {i : Nat} {f : RF} (hg : gateL dn lf = (l', false, true)) (hf : findR fs a = (i, true)) (hi : fs[i]? = some f) (hn : isNm b = true) : (RenameD D a b).2 = 0 ∧ Tw (RenameD D a b).1 rm (withR (woR fs a fs.length) ⟨b, f.b, f.sy⟩) false l' (zs ++ [0]) := by
 have h1 := (h.goes hg (onD (spendD D) (renT (spendD D) a b).1 a (renT (spendD D) a b).2).1 (onD (spendD D) (renT (spendD D) a b).1 a (renT (spendD D) a b).2).2.1 (onD (spendD D) (renT (spendD D) a b).1 a (renT (spendD D) a b).2).2.2);have e : onD (spendD D) (renT (spendD D) a b).1 a (renT (spendD D) a b).2 = ((renT (spendD D) a b).1, 0, (renT (spendD D) a b).2) := by unfold onD; rw [if_pos (h1.2.isIn hf)]
 unfold RenameD OnD
 rw [h1.1, e]
 by_cases hab : a = b
 ·have er : renT (spendD D) a b = (spendD D, 0) := by unfold renT; rw [if_neg (by rw [hn]; decide), if_pos hab]
  rw [er];subst hab;exact ⟨rfl, (h1.2.renSame hf hi).told⟩
 ·have er : renT (spendD D) a b = (renF (spendD D) a b, 0) := by unfold renT; rw [if_neg (by rw [hn]; decide), if_neg hab]
  rw [er];exact ⟨rfl, (h1.2.ren hf hi hab).told⟩
theorem Tw.appA {s da : ByteArray} (hg : gateL dn lf = (l', false, true)) (hn : isNm s = false) : AppendD D s da = (spendD D, 2) ∧ Tw (spendD D) rm fs false l' zs := by
 have h1 := h.goes hg (appD (spendD D) s da).1 (appD (spendD D) s da).2.1 (appD (spendD D) s da).2.2;have e : appD (spendD D) s da = (spendD D, 0, 2) := by unfold appD; rw [if_pos hn]
 unfold AppendD
 rw [h1.1, e];exact ⟨rfl, h1.2⟩
theorem Tw.appF {s da : ByteArray} (hg : gateL dn lf = (l', false, true)) (hn : isNm s = true) (hf : rm - sumB fs fs.length < da.size) : AppendD D s da = (spendD D, 7) ∧ Tw (spendD D) rm fs false l' zs := by
 have h1 := h.goes hg (appD (spendD D) s da).1 (appD (spendD D) s da).2.1 (appD (spendD D) s da).2.2;have hr := h1.2.room.2;have e : appD (spendD D) s da = (spendD D, 0, 7) := by unfold appD; rw [if_neg (by rw [hn]; decide), if_pos (by omega)]
 unfold AppendD
 rw [h1.1, e];exact ⟨rfl, h1.2⟩
theorem Tw.appN {s da bb : ByteArray} {i : Nat} (hg : gateL dn lf = (l', false, true)) (hn : isNm s = true) (hf : ¬ rm - sumB fs fs.length < da.size) (hr : findR fs s = (i, false)) (hbb : bb = { data := #[] } ++ da) : (AppendD D s da).2 = 0 ∧ Tw (AppendD D s da).1 rm (withR fs ⟨s, bb, 0⟩) false l' (zs ++ [da.size]) := by
 have h1 := h.goes hg (appD (spendD D) s da).1 (appD (spendD D) s da).2.1 (appD (spendD D) s da).2.2;have hro := h1.2.room.2;have e : appD (spendD D) s da = ({ spendD D with fs := updF (mkF (spendD D).fs s) s (fun x => { x with da := x.da ++ bl da }), free := (spendD D).free - da.size }, da.size, 0) := by unfold appD; rw [if_neg (by rw [hn]; decide), if_neg (by omega)]
 unfold AppendD
 rw [h1.1, e];exact ⟨rfl, (h1.2.appNew hr (by omega) hbb).told⟩
theorem Tw.appY {s da bb : ByteArray} {i : Nat} {f : RF} (hg : gateL dn lf = (l', false, true)) (hn : isNm s = true) (hf : ¬ rm - sumB fs fs.length < da.size) (hr : findR fs s = (i, true)) (hi : fs[i]? = some f) (hbb : bb = f.b ++ da) : (AppendD D s da).2 = 0 ∧ Tw (AppendD D s da).1 rm (withR fs ⟨f.nm, bb, f.sy⟩) false l' (zs ++ [da.size]) := by
 have h1 := h.goes hg (appD (spendD D) s da).1 (appD (spendD D) s da).2.1 (appD (spendD D) s da).2.2;have hro := h1.2.room.2;have e : appD (spendD D) s da = ({ spendD D with fs := updF (mkF (spendD D).fs s) s (fun x => { x with da := x.da ++ bl da }), free := (spendD D).free - da.size }, da.size, 0) := by unfold appD; rw [if_neg (by rw [hn]; decide), if_neg (by omega)]
 unfold AppendD
 rw [h1.1, e];exact ⟨rfl, (h1.2.appOld hr hi (by omega) hbb).told⟩
end
theorem isNm_eq (s : ByteArray) : isNm s = decide (1 ≤ s.size ∧ s.size ≤ 64) := by
 unfold isNm
 have : s ≠ { data := #[] } ↔ 1 ≤ s.size := by
  constructor
  ·intro h
   rcases Nat.eq_zero_or_pos s.size with h0 | h0
   ·exact absurd (bl_inj (List.eq_nil_of_length_eq_zero (by rw [bl_len]; exact h0))) h
   ·exact h0
  ·rintro h rfl;exact absurd h (by decide)
 rw [Bool.eq_iff_iff, decide_eq_true_eq, decide_eq_true_eq, this]
section
variable {D : DS} {rm lf : Nat} {fs : List RF} {dn : Bool} {zs : List Nat} (h : Tw D rm fs dn lf zs)
include h
theorem Tw.readD_d (hd : dn = true) (s : ByteArray) : readD D s = ({ data := #[] }, 16) := by unfold readD; rw [if_pos (h.edn.trans hd)]
theorem Tw.readD_n {i : Nat} {s : ByteArray} (hd : dn = false) (hf : findR fs s = (i, false)) : readD D s = ({ data := #[] }, 5) := by unfold readD; rw [if_neg (by rw [h.edn, hd]; decide), h.getNo hf]
theorem Tw.readD_y {i : Nat} {s : ByteArray} {f : RF} (hd : dn = false) (hf : findR fs s = (i, true)) (hi : fs[i]? = some f) : readD D s = (f.b, 0) := by
 unfold readD
 rw [if_neg (by rw [h.edn, hd]; decide), h.get hf hi]
 rfl
theorem Tw.synD_d (hd : dn = true) (s : ByteArray) : synD D s = 0 := by unfold synD; rw [if_pos (h.edn.trans hd)]
theorem Tw.synD_n {i : Nat} {s : ByteArray} (hd : dn = false) (hf : findR fs s = (i, false)) : synD D s = 0 := by unfold synD; rw [if_neg (by rw [h.edn, hd]; decide), h.getNo hf]
theorem Tw.synD_y {i : Nat} {s : ByteArray} {f : RF} (hd : dn = false) (hf : findR fs s = (i, true)) (hi : fs[i]? = some f) : synD D s = f.sy := by
 unfold synD
 rw [if_neg (by rw [h.edn, hd]; decide), h.get hf hi]
 rfl
theorem Tw.armD_d (hd : dn = true) (z : Int) : armD D z = (D, 16) := by unfold armD; rw [if_pos (h.edn.trans hd)]
theorem Tw.armD_n (hd : dn = false) {z : Int} (hz : z < 0) : armD D z = (D, 2) := by unfold armD; rw [if_neg (by rw [h.edn, hd]; decide), if_pos hz]
theorem Tw.armD_y (hd : dn = false) (n : Nat) : (armD D n).2 = 0 ∧ Tw (armD D n).1 rm fs false n zs := by
 unfold armD
 rw [if_neg (by rw [h.edn, hd]; decide), if_neg (by omega)];exact ⟨rfl, h.srt, h.prm, h.free, h.sz, h.edn.trans hd, by simp, fun e => by cases e⟩
end
end Go.Proofs.YtckmlaempffpjaaGreat
