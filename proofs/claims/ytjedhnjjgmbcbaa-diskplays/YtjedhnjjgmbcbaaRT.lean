/-
  Both disks are one: Wake, List.
-/
import Derived.Test.YtjedhnjjgmbcbaaRR
namespace Go.Proofs.Ytjedhnjjgmbcbaa
open Go.RowKit

theorem cut_fa {f : RF} (z : Int) (hs : f.sy ≤ f.b.size) : cutA (fa f) z = fa (cutR f z) := by
  have hle := stayN_le z (f.b.size - f.sy)
  have hl : (bl f.b).length = f.b.size := bl_len f.b
  unfold cutA cutR
  simp only [fa, hl]
  have e : (f.b.extract 0 (f.sy + stayN z (f.b.size - f.sy))).size = f.sy + stayN z (f.b.size - f.sy) := by rw [ByteArray.size_extract]; omega
  rw [e]
  congr 1
  simp [bl]
theorem rank_rf {D : DS} {rm lf i : Nat} {fs : List RF} {dn : Bool} {zs : List Nat} {f : RF} (h : Tw D rm fs dn lf zs) (hi : fs[i]? = some f) : rankF D.fs f.nm = i := by
  refine rank_at h.names ?_
  rw [srtL_rf h, List.getElem?_map, hi]
  rfl
theorem Tw.wake {D : DS} {rm lf : Nat} {fs : List RF} {dn : Bool} {zs : List Nat} (h : Tw D rm fs dn lf zs) (ks : List Int) (hsyn : ∀ f ∈ fs, f.sy ≤ f.b.size) : Tw (wakeD D ks) rm (wkR fs ks fs.length) false 0 zs := by
  have hlen : D.fs.length = fs.length := by rw [← h.prm.length_eq, List.length_map]
  have e0 : wkR fs ks fs.length = fs.mapIdx fun i f => cutR f (ks.getD i 0) := by
    unfold wkR
    exact List.take_of_length_le (by rw [List.length_mapIdx]; exact Nat.le_refl _)
  refine ⟨?_, ?_, ?_, h.sz, rfl, rfl, fun e => by cases e⟩
  · rw [e0]
    unfold SrtF
    rw [List.pairwise_iff_getElem]
    intro i j hi hj hij
    rw [List.getElem_mapIdx, List.getElem_mapIdx]
    rw [List.length_mapIdx] at hi hj
    exact (List.pairwise_iff_getElem.1 h.srt) i j hi hj hij
  · show ((wkR fs ks fs.length).map fa).Perm (wkK D.fs ks D.fs.length)
    have e1 : (wkR fs ks fs.length).map fa = (fs.map fa).map fun x => if rankF D.fs x.nm < D.fs.length then cutA x (ks.getD (rankF D.fs x.nm) 0) else x := by
      rw [e0]
      refine List.ext_getElem? fun i => ?_
      rw [List.getElem?_map, List.getElem?_mapIdx, List.getElem?_map, List.getElem?_map]
      cases hi : fs[i]? with
      | none => rfl
      | some f =>
        have hr := rank_rf h hi
        have hl := (List.getElem?_eq_some_iff.1 hi).1
        simp only [Option.map_some]
        rw [show (fa f).nm = f.nm from rfl, hr, if_pos (by omega), cut_fa _ (hsyn f (List.mem_of_getElem? hi))]
    rw [e1]
    exact h.prm.map _
  · have h1 := wk_used D.fs ks D.fs.length
    have h2 := h.free
    show D.free + used D.fs - used (wkK D.fs ks D.fs.length) + used (wkK D.fs ks D.fs.length) = rm
    omega
theorem pfR_eq (a p : ByteArray) : pfR a p = pfx a p := by
  have hb : ∀ x : ByteArray, (bl x).length = x.size := bl_len
  unfold pfR pfx Lib.hasPrefix
  rw [Bool.eq_iff_iff, Bool.and_eq_true, decide_eq_true_eq, decide_eq_true_eq, List.isPrefixOf_iff_prefix]
  have e : bl (a.extract 0 p.size) = (bl a).take p.size := by simp [bl]
  constructor
  · rintro ⟨_, h⟩
    rw [← h, e]
    exact List.take_prefix _ _
  · intro h
    have hl := h.length_le
    rw [hb, hb] at hl
    refine ⟨hl, bl_inj ?_⟩
    rw [e, ← hb p]
    exact (List.prefix_iff_eq_take.1 h).symm
theorem Tw.list {D : DS} {rm lf : Nat} {fs : List RF} {dn : Bool} {zs : List Nat} (h : Tw D rm fs dn lf zs) (p : ByteArray) : lstL D.fs p = (rl fs p fs.length).map bl := by
  have e : (rl fs p fs.length).map bl = ((fs.map fa).filter fun x => pfx x.nm p).map fun x => bl x.nm := by
    unfold rl
    rw [List.take_length, List.map_map, List.filter_map, List.map_map]
    congr 1
    refine List.filter_congr fun f _ => ?_
    exact pfR_eq _ _
  have hp : ((D.fs.filter fun x => pfx x.nm p).map fun x => bl x.nm).Perm ((rl fs p fs.length).map bl) := by
    rw [e]
    exact ((h.prm.filter _).map _).symm
  unfold lstL
  rw [mergeSort_of_perm hp]
  refine List.mergeSort_of_pairwise ?_
  unfold rl
  rw [List.take_length, List.map_map, List.pairwise_map]
  exact (List.Pairwise.filter _ h.srt).imp fun {a b} hab => decide_eq_true (Std.le_of_lt hab)
end Go.Proofs.Ytjedhnjjgmbcbaa
