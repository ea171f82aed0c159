/-
  Both disks are one: what an operation leaves of that.
-/
import Derived.Test.YtjedhnjjgmbcbaaRN
namespace Go.Proofs.Ytjedhnjjgmbcbaa
open Go.RowKit

/-- the program's disk D and the reference's tell the same -/
structure Tw (D : DS) (rm : Nat) (fs : List RF) (dn : Bool) (lf : Nat) (zs : List Nat) : Prop where
  srt : SrtF fs
  prm : (fs.map fa).Perm D.fs
  free : D.free + used D.fs = rm
  sz : D.sizes = zs
  edn : D.down = dn
  elf : D.left = lf
  dl : dn = true → lf = 0
theorem Tw.start (z : Nat) : Tw ⟨[], z, 0, false, []⟩ z [] false 0 [] := ⟨List.Pairwise.nil, List.Perm.refl _, by simp [used], rfl, rfl, rfl, fun h => by cases h⟩
theorem used_perm {a b : List FA} (h : a.Perm b) : used a = used b := (h.map _).sum_nat
theorem Tw.gate {D : DS} {rm lf l' : Nat} {fs : List RF} {dn d' go : Bool} {zs : List Nat} (h : Tw D rm fs dn lf zs) (hg : gateL dn lf = (l', d', go)) : Tw (spendD D) rm fs d' l' zs ∧ go = !d' := by
  have e1 := h.edn
  have e2 := h.elf
  have hdl := h.dl
  unfold gateL at hg
  cases dn with
  | true =>
    rw [if_pos rfl] at hg
    cases hg
    have := hdl rfl
    subst this
    exact ⟨⟨h.srt, h.prm, h.free, h.sz, by simp [spendD, e1, e2], by simp [spendD, e2], fun _ => rfl⟩, rfl⟩
  | false =>
    rw [if_neg (by decide)] at hg
    by_cases h0 : lf = 0
    · rw [if_pos h0] at hg
      cases hg
      subst h0
      exact ⟨⟨h.srt, h.prm, h.free, h.sz, by simp [spendD, e1, e2], by simp [spendD, e2], fun _ => rfl⟩, rfl⟩
    · rw [if_neg h0] at hg
      by_cases h1 : lf = 1
      · rw [if_pos h1] at hg
        cases hg
        subst h1
        exact ⟨⟨h.srt, h.prm, h.free, h.sz, by simp [spendD, e2], by simp [spendD, e2], fun _ => rfl⟩, rfl⟩
      · rw [if_neg h1] at hg
        cases hg
        exact ⟨⟨h.srt, h.prm, h.free, h.sz, by simp [spendD, e2, h0, h1], by simp [spendD, e2], fun e => by cases e⟩, rfl⟩
theorem Tw.told {D : DS} {rm lf n : Nat} {fs : List RF} {dn : Bool} {zs : List Nat} (h : Tw D rm fs dn lf zs) : Tw { D with sizes := D.sizes ++ [n] } rm fs dn lf (zs ++ [n]) := ⟨h.srt, h.prm, h.free, by rw [h.sz], h.edn, h.elf, h.dl⟩
theorem Tw.isIn {D : DS} {rm lf i : Nat} {fs : List RF} {dn : Bool} {zs : List Nat} {s : ByteArray} (h : Tw D rm fs dn lf zs) (hf : findR fs s = (i, true)) : ∃ x ∈ D.fs, x.nm = s := by
  obtain ⟨f, h1, h2⟩ := findR_yes hf
  exact ⟨fa f, h.prm.mem_iff.1 (List.mem_map_of_mem (List.mem_of_getElem? h1)), h2⟩
theorem Tw.notIn {D : DS} {rm lf i : Nat} {fs : List RF} {dn : Bool} {zs : List Nat} {s : ByteArray} (h : Tw D rm fs dn lf zs) (hf : findR fs s = (i, false)) : ¬ ∃ x ∈ D.fs, x.nm = s := by
  rintro ⟨x, hx, hn⟩
  obtain ⟨f, hf2, rfl⟩ := List.mem_map.1 (h.prm.mem_iff.2 hx)
  exact findR_no h.srt hf f hf2 hn
theorem woR_all (fs : List RF) (s : ByteArray) : woR fs s fs.length = fs.filter fun f => !decide (f.nm = s) := by unfold woR; rw [List.take_length]
theorem Tw.rem {D : DS} {rm lf : Nat} {fs : List RF} {dn : Bool} {zs : List Nat} (h : Tw D rm fs dn lf zs) (s : ByteArray) : Tw (remF D s) rm (woR fs s fs.length) dn lf zs := by
  refine ⟨by rw [woR_all]; exact List.Pairwise.filter _ h.srt, ?_, ?_, h.sz, h.edn, h.elf, h.dl⟩
  · have : ((woR fs s fs.length).map fa) = delF (fs.map fa) s := by
      rw [woR_all, delF, List.filter_map]
      congr 1
      refine List.filter_congr fun x _ => ?_
      by_cases e : x.nm = s <;> simp [fa, e]
    rw [this]
    exact h.prm.filter _
  · have := used_split D.fs s
    have h2 := h.free
    show D.free + used (keepF D.fs s) + used (delF D.fs s) = rm
    omega
theorem upd_map {fs : List RF} {f : RF} {g : FA → FA} (hg : ∀ x ∈ fs, x.nm = f.nm → g (fa x) = fa f) : (fs.map fun x => if x.nm = f.nm then f else x).map fa = updF (fs.map fa) f.nm g := by
  rw [List.map_map, updF, List.map_map]
  refine List.map_congr_left fun x hx => ?_
  by_cases e : x.nm = f.nm
  · simp only [Function.comp, if_pos e]
    rw [if_pos (show (fa x).nm = f.nm from e)]
    exact (hg x hx e).symm
  · simp only [Function.comp, if_neg e]
    rw [if_neg (show ¬ (fa x).nm = f.nm from e)]
theorem updF_perm {a b : List FA} (h : a.Perm b) (s : ByteArray) (g : FA → FA) : (updF a s g).Perm (updF b s g) := h.map _
theorem srt_one_name {fs : List RF} (hs : SrtF fs) {x y : RF} (hx : x ∈ fs) (hy : y ∈ fs) (h : x.nm = y.nm) : x = y := by
  induction fs with
  | nil => cases hx
  | cons g fs ih =>
    obtain ⟨h1, h2⟩ := List.pairwise_cons.1 hs
    rcases List.mem_cons.1 hx with rfl | hx'
    · rcases List.mem_cons.1 hy with rfl | hy'
      · rfl
      · have := h1 y hy'; rw [h] at this; exact absurd this Std.lt_irrefl
    · rcases List.mem_cons.1 hy with rfl | hy'
      · have := h1 x hx'; rw [h] at this; exact absurd this Std.lt_irrefl
      · exact ih h2 hx' hy'
/-- a file that is there is changed -/
theorem Tw.upd {D : DS} {rm lf i fr : Nat} {fs : List RF} {dn : Bool} {zs : List Nat} {s : ByteArray} {f f' : RF} {g : FA → FA} (h : Tw D rm fs dn lf zs) (hf : findR fs s = (i, true)) (hi : fs[i]? = some f) (hn : f'.nm = s) (hg : g (fa f) = fa f') (hu : fr + used (updF D.fs s g) = rm) : Tw { D with fs := updF D.fs s g, free := fr } rm (withR fs f') dn lf zs := by
  obtain ⟨f0, h1, h2⟩ := findR_yes hf
  rw [hi] at h1
  cases h1
  have hm := List.mem_of_getElem? hi
  refine ⟨by rw [withR_eq]; exact insR_srt h.srt, ?_, hu, h.sz, h.edn, h.elf, h.dl⟩
  rw [withR_eq, insR_old h.srt ⟨f, hm, h2.trans hn.symm⟩]
  have e : (fs.map fun x => if x.nm = f'.nm then f' else x).map fa = updF (fs.map fa) f'.nm g := upd_map (fun x hx hxn => by
    have := srt_one_name h.srt hx hm (hxn.trans (hn.trans h2.symm))
    rw [this]; exact hg)
  rw [e, hn]
  exact updF_perm h.prm s g
theorem used_same (fs : List FA) (s : ByteArray) : used (updF fs s fun x => { x with sy := x.da.length }) = used fs := by
  unfold used updF
  rw [List.map_map]
  congr 1
  refine List.map_congr_left fun x _ => ?_
  by_cases e : x.nm = s <;> simp [e]
theorem Tw.sync {D : DS} {rm lf i : Nat} {fs : List RF} {dn : Bool} {zs : List Nat} {s : ByteArray} {f : RF} (h : Tw D rm fs dn lf zs) (hf : findR fs s = (i, true)) (hi : fs[i]? = some f) : Tw (syncF D s) rm (withR fs ⟨f.nm, f.b, f.b.size⟩) dn lf zs := by
  obtain ⟨f0, h1, h2⟩ := findR_yes hf
  rw [hi] at h1
  cases h1
  exact Tw.upd (fr := D.free) h hf hi h2 (by simp [fa, bl_len]) (by rw [used_same]; exact h.free)
end Go.Proofs.Ytjedhnjjgmbcbaa
