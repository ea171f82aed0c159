/-
  PutNumber at any width, and PutText: what they lay.
-/
import Derived.Test.YtdgjdfpblenogaaPut
namespace Go.Proofs.Ytdgjdfpblenogaa
open Go.RowKit

/-- the width that is meant -/
def wd (bytes : Int) : Nat := if bytes < 1 then 1 else if 8 < bytes then 8 else bytes.toNat

theorem PutNumber_any (w : World) (s : ByteArray) (bytes : Int) (v : Nat) (hs : s.size ≤ 1000000) :
    Calls Try.prog 10 #[.string s, .int .i64 bytes, .int .u64 v] w fun e w' =>
      e = .returned (.string ⟨(s.data.toList ++ be v (wd bytes)).toArray⟩) ∧ Below w.heap.size w w' := by
  unfold wd
  by_cases h1 : bytes < 1
  · rw [if_pos h1]; exact put_low w s bytes v hs h1
  by_cases h8 : 8 < bytes
  · rw [if_neg h1, if_pos h8]; exact put_high w s bytes v hs h8
  · rw [if_neg h1, if_neg h8]
    obtain ⟨n, rfl⟩ := Int.eq_ofNat_of_zero_le (show 0 ≤ bytes by omega)
    exact put_mid w s n v hs (by omega) (by omega)

/-- what PutText lays behind b -/
def pt (t : List UInt8) : List UInt8 := be t.length 4 ++ t

theorem str_append (l : List UInt8) (t : ByteArray) : (⟨l.toArray⟩ : ByteArray) ++ t = ⟨(l ++ t.data.toList).toArray⟩ := by
  apply ByteArray.ext
  simp

theorem PutText_any (w : World) (s t : ByteArray) (hs : s.size ≤ 1000000) (ht : t.size ≤ 1000000) :
    Calls Try.prog 12 #[.string s, .string t] w fun e w' =>
      e = .returned (.string ⟨(s.data.toList ++ pt t.data.toList).toArray⟩) ∧ Below w.heap.size w w' := by
  have N := hide (put_mid w s 4 t.size hs (by decide) (by decide))
  have hbl := be_length t.size 4
  have HT : Hid (pt t.data.toList = be t.size 4 ++ t.data.toList) := by unfold pt; rw [str_length]; exact rfl
  go_enter Try.func12, Try.ntmps12
  go_wp2_with fail
  refine N.out.mono ?_
  rintro e w1 ⟨rfl, hb⟩
  clear N
  go_wp2
  go_ret
  rw [HT.out, ← List.append_assoc, ← str_append]
  exact ⟨rfl, hb⟩

end Go.Proofs.Ytdgjdfpblenogaa
