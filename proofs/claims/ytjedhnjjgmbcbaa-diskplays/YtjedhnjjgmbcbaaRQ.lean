/-
  Both disks are one: Append, Rename; what is read.
-/
import Derived.Test.YtjedhnjjgmbcbaaRP
namespace Go.Proofs.Ytjedhnjjgmbcbaa
open Go.RowKit

theorem srt_names {fs : List RF} (h : SrtF fs) : (fs.map (·.nm)).Nodup := by
  unfold List.Nodup
  rw [List.pairwise_map]
  exact h.imp fun {a b} hab e => by rw [e] at hab; exact absurd hab Std.lt_irrefl
theorem Tw.names {D : DS} {rm lf : Nat} {fs : List RF} {dn : Bool} {zs : List Nat} (h : Tw D rm fs dn lf zs) : (D.fs.map (·.nm)).Nodup := by
  have e : (fs.map fa).map (·.nm) = fs.map (·.nm) := by rw [List.map_map]; rfl
  rw [← (h.prm.map (·.nm)).nodup_iff, e]
  exact srt_names h.srt
theorem bl_app (a b : ByteArray) : bl (a ++ b) = bl a ++ bl b := by simp [bl]
theorem Tw.appOld {D : DS} {rm lf i : Nat} {fs : List RF} {dn : Bool} {zs : List Nat} {s da bb : ByteArray} {f : RF} (h : Tw D rm fs dn lf zs) (hf : findR fs s = (i, true)) (hi : fs[i]? = some f) (hfr : da.size ≤ D.free) (hbb : bb = f.b ++ da) : Tw { D with fs := updF (mkF D.fs s) s (fun x => { x with da := x.da ++ bl da }), free := D.free - da.size } rm (withR fs ⟨f.nm, bb, f.sy⟩) dn lf zs := by
  have hin := h.isIn hf
  obtain ⟨f0, h1, h2⟩ := findR_yes hf
  rw [hi] at h1
  cases h1
  have e : mkF D.fs s = D.fs := by unfold mkF; rw [if_pos hin]
  rw [e]
  refine Tw.upd (g := fun x => { x with da := x.da ++ bl da }) h hf hi h2 (by simp [fa, hbb, bl_app]) ?_
  rw [used_app h.names hin, bl_len]
  have := h.free
  omega
theorem Tw.appNew {D : DS} {rm lf i : Nat} {fs : List RF} {dn : Bool} {zs : List Nat} {s da bb : ByteArray} (h : Tw D rm fs dn lf zs) (hf : findR fs s = (i, false)) (hfr : da.size ≤ D.free) (hbb : bb = { data := #[] } ++ da) : Tw { D with fs := updF (mkF D.fs s) s (fun x => { x with da := x.da ++ bl da }), free := D.free - da.size } rm (withR fs ⟨s, bb, 0⟩) dn lf zs := by
  have hno := h.notIn hf
  have hno2 := findR_no h.srt hf
  have e0 : bl bb = bl da := by rw [hbb, bl_app]; rfl
  have e1 : updF (mkF D.fs s) s (fun x => { x with da := x.da ++ bl da }) = D.fs ++ [⟨s, bl da, 0⟩] := by
    unfold mkF
    rw [if_neg hno]
    have : updF (D.fs ++ [⟨s, [], 0⟩]) s (fun x => { x with da := x.da ++ bl da }) = updF D.fs s (fun x => { x with da := x.da ++ bl da }) ++ [⟨s, bl da, 0⟩] := by simp [updF]
    rw [this, updF_no (fun x hx e => hno ⟨x, hx, e⟩)]
  rw [e1]
  refine ⟨by rw [withR_eq]; exact insR_srt h.srt, ?_, ?_, h.sz, h.edn, h.elf, h.dl⟩
  · rw [withR_eq]
    refine ((insR_new (f := ⟨s, bb, 0⟩) hno2).map fa).trans ?_
    rw [List.map_append]
    have : ([⟨s, bb, 0⟩] : List RF).map fa = [⟨s, bl da, 0⟩] := by simp [fa, e0]
    rw [this]
    exact h.prm.append_right _
  · have : used (D.fs ++ [⟨s, bl da, 0⟩]) = used D.fs + da.size := by simp [used, bl_len]
    have h2 := h.free
    show D.free - da.size + used (D.fs ++ [⟨s, bl da, 0⟩]) = rm
    omega
theorem getF_some {fs : List FA} {x : FA} (hn : (fs.map (·.nm)).Nodup) (hx : x ∈ fs) : getF fs x.nm = some x := by
  induction fs with
  | nil => cases hx
  | cons g fs ih =>
    rw [List.map_cons, List.nodup_cons] at hn
    unfold getF at ih ⊢
    rw [List.find?_cons]
    rcases List.mem_cons.1 hx with rfl | hx'
    · simp
    · have : g.nm ≠ x.nm := fun e => hn.1 (e ▸ List.mem_map_of_mem (f := (·.nm)) hx')
      rw [decide_eq_false this]
      exact ih hn.2 hx'
theorem Tw.get {D : DS} {rm lf i : Nat} {fs : List RF} {dn : Bool} {zs : List Nat} {s : ByteArray} {f : RF} (h : Tw D rm fs dn lf zs) (hf : findR fs s = (i, true)) (hi : fs[i]? = some f) : getF D.fs s = some (fa f) := by
  obtain ⟨f0, h1, h2⟩ := findR_yes hf
  rw [hi] at h1
  cases h1
  have := getF_some h.names (h.prm.mem_iff.1 (List.mem_map_of_mem (f := fa) (List.mem_of_getElem? hi)))
  rwa [show (fa f).nm = s from h2] at this
theorem Tw.getNo {D : DS} {rm lf i : Nat} {fs : List RF} {dn : Bool} {zs : List Nat} {s : ByteArray} (h : Tw D rm fs dn lf zs) (hf : findR fs s = (i, false)) : getF D.fs s = none := by
  unfold getF
  refine List.find?_eq_none.2 fun x hx => ?_
  have := h.notIn hf
  simp only [decide_eq_true_eq]
  exact fun e => this ⟨x, hx, e⟩
theorem used_fa (fs : List RF) : used (fs.map fa) = sumB fs fs.length := by
  unfold used sumB
  rw [List.take_length, List.map_map]
  congr 1
theorem Tw.room {D : DS} {rm lf : Nat} {fs : List RF} {dn : Bool} {zs : List Nat} (h : Tw D rm fs dn lf zs) : sumB fs fs.length ≤ rm ∧ rm - sumB fs fs.length = D.free := by
  have h1 := h.free
  rw [← used_perm h.prm, used_fa] at h1
  omega
end Go.Proofs.Ytjedhnjjgmbcbaa
