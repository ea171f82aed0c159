/-
  Is it a prim; its kind.
-/
import Derived.Test.YtiogegoepgkjlaaWZ
namespace Go.Proofs.Ytiogegoepgkjlaa
open Go.RowKit

end Go.Proofs.Ytiogegoepgkjlaa

namespace Go.Proofs.Ytiogegoepgkjlaa
open Go.RowKit

theorem ss1 {a : ByteArray} {m : Nat} (h : a.size ≤ m) : ∀ i, ([a].getD i ByteArray.empty).size ≤ m := strs_le (by simpa using h)
theorem ss2 {a b : ByteArray} {m : Nat} (h : a.size ≤ m) (h2 : b.size ≤ m) : ∀ i, ([a, b].getD i ByteArray.empty).size ≤ m := strs_le (by simpa using ⟨h, h2⟩)
end Go.Proofs.Ytiogegoepgkjlaa

namespace Go.Proofs.Ytiogegoepgkjlaa
open Go.RowKit

end Go.Proofs.Ytiogegoepgkjlaa

namespace Go.Proofs.Ytiogegoepgkjlaa
open Go.RowKit

end Go.Proofs.Ytiogegoepgkjlaa
