/-
  A prim of terms: Seal, Open, Derive, New.
-/
import Derived.Test.YtiogegoepgkjlaaGD
import Derived.Test.YtiogegoepgkjlaaWA
namespace Go.Proofs.Ytiogegoepgkjlaa
open Go.RowKit

end Go.Proofs.Ytiogegoepgkjlaa

namespace Go.Proofs.Ytiogegoepgkjlaa
open Go.RowKit

end Go.Proofs.Ytiogegoepgkjlaa

namespace Go.Proofs.Ytiogegoepgkjlaa
open Go.RowKit

/-- texts laid one behind the other -/
def layT (ss : List ByteArray) : Nat → ByteArray
  | 0 => { data := #[] }
  | k + 1 => ⟨((layT ss k).data.toList ++ Wi.pt (ss.getD k ByteArray.empty).data.toList).toArray⟩
theorem layT_size {ss : List ByteArray} {m : Nat} (h : ∀ i, (ss.getD i ByteArray.empty).size ≤ m) : ∀ k, (layT ss k).size ≤ k * (m + 4)
  | 0 => Nat.zero_le _
  | k + 1 => by
    have h1 := layT_size h k
    have h2 := h k
    show (((layT ss k).data.toList ++ Wi.pt (ss.getD k ByteArray.empty).data.toList).toArray).size ≤ _
    rw [List.size_toArray, List.length_append, Wi.pt, List.length_append, Wi.be_length, Array.length_toList, Array.length_toList]
    have e1 : (layT ss k).data.size = (layT ss k).size := rfl
    have e2 : (ss.getD k ByteArray.empty).data.size = (ss.getD k ByteArray.empty).size := rfl
    rw [e1, e2, Nat.succ_mul]
    omega
end Go.Proofs.Ytiogegoepgkjlaa

namespace Go.Proofs.Ytiogegoepgkjlaa
open Go.RowKit

end Go.Proofs.Ytiogegoepgkjlaa
