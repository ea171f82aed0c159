/-
  Both disks are one: Rename; lists of names.
-/
import Derived.Test.YtjedhnjjgmbcbaaRQ
namespace Go.Proofs.Ytjedhnjjgmbcbaa
open Go.RowKit

theorem filter_all {fs : List RF} {s : ByteArray} (h : ∀ x ∈ fs, x.nm ≠ s) : (fs.filter fun x => decide (x.nm ≠ s)) = fs := List.filter_eq_self.2 fun x hx => decide_eq_true (h x hx)
theorem insR_gen {f : RF} : ∀ {fs : List RF}, SrtF fs → (insR fs f).Perm ((fs.filter fun x => decide (x.nm ≠ f.nm)) ++ [f])
  | [], _ => List.Perm.refl _
  | g :: fs, hs => by
    obtain ⟨h1, h2⟩ := List.pairwise_cons.1 hs
    rw [insR]
    by_cases he : g.nm = f.nm
    · rw [if_pos ((geN_iff _ _).2 (by rw [he]; exact Std.lt_irrefl)), if_pos he, List.filter_cons_of_neg (by simp [he]), filter_all (fun x hx e => by have := h1 x hx; rw [e, he] at this; exact absurd this Std.lt_irrefl)]
      exact (List.perm_append_singleton f fs).symm
    · rw [List.filter_cons_of_pos (by simp [he])]
      by_cases hg : geN g.nm f.nm = true
      · have hlt := lt_of_ge_ne ((geN_iff _ _).1 hg) he
        rw [if_pos hg, if_neg he, filter_all (fun x hx e => by have := Std.lt_trans hlt (h1 x hx); rw [e] at this; exact absurd this Std.lt_irrefl)]
        exact (List.perm_append_singleton f (g :: fs)).symm
      · rw [if_neg hg]
        exact List.Perm.cons _ (insR_gen h2)
theorem keep_one {fs : List FA} {x : FA} (hn : (fs.map (·.nm)).Nodup) (hx : x ∈ fs) : keepF fs x.nm = [x] := by
  induction fs with
  | nil => cases hx
  | cons g fs ih =>
    rw [List.map_cons, List.nodup_cons] at hn
    unfold keepF at ih ⊢
    rcases List.mem_cons.1 hx with rfl | hx'
    · rw [List.filter_cons_of_pos (by simp)]
      congr 1
      refine List.filter_eq_nil_iff.2 fun y hy => ?_
      simp only [decide_eq_true_eq]
      exact fun e => hn.1 (e ▸ List.mem_map_of_mem (f := (·.nm)) hy)
    · have : g.nm ≠ x.nm := fun e => hn.1 (e ▸ List.mem_map_of_mem (f := (·.nm)) hx')
      rw [List.filter_cons_of_neg (by simp [this])]
      exact ih hn.2 hx'
theorem del_fa (fs : List RF) (s : ByteArray) : (fs.filter fun x => decide (x.nm ≠ s)).map fa = delF (fs.map fa) s := by
  rw [delF, List.filter_map]
  rfl
theorem woR_ne (fs : List RF) (s : ByteArray) : woR fs s fs.length = fs.filter fun x => decide (x.nm ≠ s) := by
  rw [woR_all]
  refine List.filter_congr fun x _ => ?_
  by_cases e : x.nm = s <;> simp [e]
theorem Tw.renSame {D : DS} {rm lf i : Nat} {fs : List RF} {dn : Bool} {zs : List Nat} {a : ByteArray} {f : RF} (h : Tw D rm fs dn lf zs) (hf : findR fs a = (i, true)) (hi : fs[i]? = some f) : Tw D rm (withR (woR fs a fs.length) ⟨a, f.b, f.sy⟩) dn lf zs := by
  obtain ⟨f0, h1, h2⟩ := findR_yes hf
  rw [hi] at h1
  cases h1
  have hm := List.mem_of_getElem? hi
  have hs : SrtF (woR fs a fs.length) := by rw [woR_ne]; exact List.Pairwise.filter _ h.srt
  refine ⟨by rw [withR_eq]; exact insR_srt hs, ?_, h.free, h.sz, h.edn, h.elf, h.dl⟩
  rw [withR_eq]
  refine ((insR_new (f := ⟨a, f.b, f.sy⟩) (fun g hg => by rw [woR_ne] at hg; exact of_decide_eq_true (List.mem_filter.1 hg).2)).map fa).trans ?_
  rw [List.map_append, woR_ne, del_fa]
  have e : ([⟨a, f.b, f.sy⟩] : List RF).map fa = keepF (fs.map fa) a := by
    have hn : ((fs.map fa).map (·.nm)).Nodup := by rw [List.map_map]; exact srt_names h.srt
    have := keep_one hn (List.mem_map_of_mem (f := fa) hm)
    rw [show (fa f).nm = a from h2] at this
    rw [this, ← h2]
    rfl
  rw [e]
  have : (delF (fs.map fa) a ++ keepF (fs.map fa) a).Perm (fs.map fa) := by
    have := List.filter_append_perm (fun x : FA => decide (x.nm ≠ a)) (fs.map fa)
    refine List.Perm.trans ?_ this
    unfold delF keepF
    refine List.Perm.append_left _ (List.Perm.of_eq (List.filter_congr fun x _ => ?_))
    by_cases e : x.nm = a <;> simp [e]
  exact this.trans h.prm
theorem used_app2 (a b : List FA) : used (a ++ b) = used a + used b := by simp [used]
theorem used_nm (l : List FA) (b : ByteArray) : used (l.map fun x => { x with nm := b }) = used l := by unfold used; rw [List.map_map]; rfl
theorem Tw.ren {D : DS} {rm lf i : Nat} {fs : List RF} {dn : Bool} {zs : List Nat} {a b : ByteArray} {f : RF} (h : Tw D rm fs dn lf zs) (hf : findR fs a = (i, true)) (hi : fs[i]? = some f) (hab : a ≠ b) : Tw (renF D a b) rm (withR (woR fs a fs.length) ⟨b, f.b, f.sy⟩) dn lf zs := by
  obtain ⟨f0, h1, h2⟩ := findR_yes hf
  rw [hi] at h1
  cases h1
  have hm := List.mem_of_getElem? hi
  have hs : SrtF (woR fs a fs.length) := by rw [woR_ne]; exact List.Pairwise.filter _ h.srt
  refine ⟨by rw [withR_eq]; exact insR_srt hs, ?_, ?_, h.sz, h.edn, h.elf, h.dl⟩
  · rw [withR_eq]
    refine ((insR_gen (f := ⟨b, f.b, f.sy⟩) hs).map fa).trans ?_
    rw [List.map_append, del_fa, woR_ne, del_fa]
    have hn : ((fs.map fa).map (·.nm)).Nodup := by rw [List.map_map]; exact srt_names h.srt
    have hn2 : ((delF (fs.map fa) b).map (·.nm)).Nodup := (List.Sublist.map _ List.filter_sublist).nodup hn
    have hmd : fa f ∈ delF (fs.map fa) b := List.mem_filter.2 ⟨List.mem_map_of_mem (f := fa) hm, decide_eq_true (fun e => hab (h2.symm.trans e))⟩
    have hk := keep_one hn2 hmd
    rw [show (fa f).nm = a from h2] at hk
    have hp1 : (delF (fs.map fa) b).Perm (delF D.fs b) := h.prm.filter _
    have hk2 : (keepF (delF D.fs b) a).Perm [fa f] := by rw [← hk]; exact (hp1.filter _).symm
    show (delF (delF (fs.map fa) a) b ++ [fa ⟨b, f.b, f.sy⟩]).Perm (delF (delF D.fs b) a ++ (keepF (delF D.fs b) a).map (fun x => { x with nm := b }))
    have hq := (hk2.map (fun x : FA => ({ x with nm := b } : FA))).symm
    refine List.Perm.append ?_ hq
    have : delF (delF (fs.map fa) a) b = delF (delF (fs.map fa) b) a := by
      unfold delF
      rw [List.filter_filter, List.filter_filter]
      refine List.filter_congr fun x _ => Bool.and_comm ..
    rw [this]
    exact hp1.filter _
  · have e1 := used_split D.fs b
    have e2 := used_split (delF D.fs b) a
    have h3 := h.free
    show D.free + used (keepF D.fs b) + used (delF (delF D.fs b) a ++ (keepF (delF D.fs b) a).map (fun x => { x with nm := b })) = rm
    rw [used_app2, used_nm]
    omega
theorem srtL_rf {D : DS} {rm lf : Nat} {fs : List RF} {dn : Bool} {zs : List Nat} (h : Tw D rm fs dn lf zs) : srtL D.fs = fs.map fun f => bl f.nm := by
  have hp : (D.fs.map fun x => bl x.nm).Perm (fs.map fun f => bl f.nm) := by
    have := (h.prm.map (fun x : FA => bl x.nm)).symm
    rwa [List.map_map] at this
  unfold srtL
  rw [mergeSort_of_perm hp]
  refine List.mergeSort_of_pairwise ?_
  rw [List.pairwise_map]
  exact h.srt.imp fun {a b} hab => decide_eq_true (Std.le_of_lt hab)
end Go.Proofs.Ytjedhnjjgmbcbaa
