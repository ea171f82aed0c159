/-
  Both disks are one: what is read.
-/
import Derived.Test.YtjedhnjjgmbcbaaRU
namespace Go.Proofs.Ytjedhnjjgmbcbaa
open Go.RowKit

theorem isNm_eq (s : ByteArray) : isNm s = decide (1 ≤ s.size ∧ s.size ≤ 64) := by
  unfold isNm
  have : s ≠ { data := #[] } ↔ 1 ≤ s.size := by
    constructor
    · intro h
      rcases Nat.eq_zero_or_pos s.size with h0 | h0
      · exact absurd (bl_inj (List.eq_nil_of_length_eq_zero (by rw [bl_len]; exact h0))) h
      · exact h0
    · rintro h rfl
      exact absurd h (by decide)
  rw [Bool.eq_iff_iff, decide_eq_true_eq, decide_eq_true_eq, this]
section
variable {D : DS} {rm lf : Nat} {fs : List RF} {dn : Bool} {zs : List Nat} (h : Tw D rm fs dn lf zs)
include h
theorem Tw.readD_d (hd : dn = true) (s : ByteArray) : readD D s = ({ data := #[] }, 16) := by unfold readD; rw [if_pos (h.edn.trans hd)]
theorem Tw.readD_n {i : Nat} {s : ByteArray} (hd : dn = false) (hf : findR fs s = (i, false)) : readD D s = ({ data := #[] }, 5) := by unfold readD; rw [if_neg (by rw [h.edn, hd]; decide), h.getNo hf]
theorem Tw.readD_y {i : Nat} {s : ByteArray} {f : RF} (hd : dn = false) (hf : findR fs s = (i, true)) (hi : fs[i]? = some f) : readD D s = (f.b, 0) := by
  unfold readD
  rw [if_neg (by rw [h.edn, hd]; decide), h.get hf hi]
  rfl
theorem Tw.synD_d (hd : dn = true) (s : ByteArray) : synD D s = 0 := by unfold synD; rw [if_pos (h.edn.trans hd)]
theorem Tw.synD_n {i : Nat} {s : ByteArray} (hd : dn = false) (hf : findR fs s = (i, false)) : synD D s = 0 := by unfold synD; rw [if_neg (by rw [h.edn, hd]; decide), h.getNo hf]
theorem Tw.synD_y {i : Nat} {s : ByteArray} {f : RF} (hd : dn = false) (hf : findR fs s = (i, true)) (hi : fs[i]? = some f) : synD D s = f.sy := by
  unfold synD
  rw [if_neg (by rw [h.edn, hd]; decide), h.get hf hi]
  rfl
theorem Tw.freeD_u (hd : dn = false) : freeD D = rm - sumB fs fs.length := by unfold freeD; rw [if_neg (by rw [h.edn, hd]; decide), h.room.2]
theorem Tw.armD_d (hd : dn = true) (z : Int) : armD D z = (D, 16) := by unfold armD; rw [if_pos (h.edn.trans hd)]
theorem Tw.armD_n (hd : dn = false) {z : Int} (hz : z < 0) : armD D z = (D, 2) := by unfold armD; rw [if_neg (by rw [h.edn, hd]; decide), if_pos hz]
theorem Tw.armD_y (hd : dn = false) (n : Nat) : (armD D n).2 = 0 ∧ Tw (armD D n).1 rm fs false n zs := by
  unfold armD
  rw [if_neg (by rw [h.edn, hd]; decide), if_neg (by omega)]
  exact ⟨rfl, h.srt, h.prm, h.free, h.sz, h.edn.trans hd, by simp, fun e => by cases e⟩
end
end Go.Proofs.Ytjedhnjjgmbcbaa
