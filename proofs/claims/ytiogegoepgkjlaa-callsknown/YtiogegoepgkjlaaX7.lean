/-
  The reference's EncodeBundle and DecodeBundle.
-/
import Derived.Test.YtiogegoepgkjlaaX6
namespace Go.Proofs.Ytiogegoepgkjlaa
open Go.RowKit

theorem bu_nat {x : Bu} (hM : MayX x) : x = mkB x.u.toNat x.d.toNat x.sg x.dh x.pi.toNat x.pr x.ps x.oi.toNat x.on := by
  obtain ⟨a, b, c, d, e, f, g, h, i⟩ := x
  have h1 := hM.u0; have h2 := hM.d0; have h3 := hM.p0; have h4 := hM.o0
  simp only at h1 h2 h3 h4
  unfold mkB
  simp only [Int.toNat_of_nonneg h1, Int.toNat_of_nonneg h2, Int.toNat_of_nonneg (show 0 ≤ e by omega), Int.toNat_of_nonneg h4]
theorem pt_len (s : ByteArray) : (Wi.pt s.data.toList).length = 4 + s.size := by
  rw [Wi.pt, List.length_append, Wi.be_length, Array.length_toList]; rfl
/-- a bundle's bytes, a list -/
def encL (u d : Nat) (sg dh : ByteArray) (pi : Nat) (pr ps : ByteArray) (oi : Nat) (on : ByteArray) : List UInt8 := Wi.be u (Wi.wd 1) ++ Wi.be d (Wi.wd 1) ++ Wi.pt sg.data.toList ++ Wi.pt dh.data.toList ++ Wi.be pi (Wi.wd 4) ++ Wi.pt pr.data.toList ++ Wi.pt ps.data.toList ++ Wi.be oi (Wi.wd 4) ++ Wi.pt on.data.toList
theorem encB_eq (u d : Nat) (sg dh : ByteArray) (pi : Nat) (pr ps : ByteArray) (oi : Nat) (on : ByteArray) : encB (mkB u d sg dh pi pr ps oi on) = ⟨(encL u d sg dh pi pr ps oi on).toArray⟩ := by
  apply ByteArray.ext
  unfold encB encL mkB layT nbT
  simp [layT, ByteArray.empty, ByteArray.emptyWithCapacity]
/-- bytes of a list -/
def bsA (l : List UInt8) : ByteArray := ⟨l.toArray⟩
namespace Rs
end Rs
end Go.Proofs.Ytiogegoepgkjlaa
