/-
  Bytes there and back: lists, calls.
-/
import Derived.Test.YtiogegoepgkjlaaC11
namespace Go.Proofs.Ytiogegoepgkjlaa
open Go.RowKit

open Rs
/-- texts, a list -/
def ptL (ss : List ByteArray) : List UInt8 := ss.flatMap fun s => Wi.pt (bl s)
theorem bl_lk (ss : List ByteArray) : ∀ k, k ≤ ss.length → bl (layT ss k) = ptL (ss.take k)
  | 0, _ => by simp [layT, ptL, bl]
  | k + 1, h => by
    have h1 := bl_lk ss k (by omega)
    have h2 : ss.take (k + 1) = ss.take k ++ [ss.getD k ByteArray.empty] := by
      rw [List.take_add_one, List.getD_eq_getElem?_getD, List.getElem?_eq_getElem (by omega)]
      rfl
    rw [h2]
    show (((layT ss k).data.toList ++ Wi.pt (ss.getD k ByteArray.empty).data.toList).toArray).toList = _
    unfold ptL at h1 ⊢
    rw [List.flatMap_append, ← h1]
    simp [bl]
theorem bl_ln (ss : List ByteArray) : bl (layT ss ss.length) = ptL ss := by rw [bl_lk ss _ (Nat.le_refl _), List.take_length]
theorem bl_l1 (s : ByteArray) : bl (layT [s] 1) = Wi.pt (bl s) := by
  have := bl_ln [s]
  rw [show layT [s] [s].length = layT [s] 1 from rfl] at this
  rw [this]
  simp [ptL]
theorem bl_l2 (s u : ByteArray) : bl (layT [s, u] 2) = Wi.pt (bl s) ++ Wi.pt (bl u) := by
  have := bl_ln [s, u]
  rw [show layT [s, u] [s, u].length = layT [s, u] 2 from rfl] at this
  rw [this]
  simp [ptL]
theorem lay1_sz (s : ByteArray) : (layT [s] 1).size = 4 + s.size := by
  have h := congrArg List.length (bl_l1 s)
  unfold bl at h
  rw [pt_len] at h
  rw [show (layT [s] 1).size = (layT [s] 1).data.toList.length from Array.length_toList.symm]
  exact h
theorem decA_enc {b : Bu} (hm : mayX b = true) : decA (encA b).1 = (b, 0) := by
  unfold encA
  rw [hm]
  exact dec_enc hm
theorem bdA_ok {s : ByteArray} (h : s.size ≤ 16384) : bdA s = (s, 0) := if_pos h
end Go.Proofs.Ytiogegoepgkjlaa

namespace Go.Proofs.Ytiogegoepgkjlaa
open Go.RowKit

open Rs
theorem lay2_sz (s u : ByteArray) : (layT [s, u] 2).size = 4 + s.size + (4 + u.size) := by
  have h := congrArg List.length (bl_l2 s u)
  unfold bl at h
  rw [List.length_append, pt_len, pt_len] at h
  rw [show (layT [s, u] 2).size = (layT [s, u] 2).data.toList.length from Array.length_toList.symm]
  exact h
theorem encN_ok {id : Nat} {a : An} (hm : mayA a = true) (hz : (ansB id a).size ≤ 16384) : encN id a = (ansB id a, 0) := by
  unfold encN
  rw [hm]
  exact bdA_ok hz
end Go.Proofs.Ytiogegoepgkjlaa
