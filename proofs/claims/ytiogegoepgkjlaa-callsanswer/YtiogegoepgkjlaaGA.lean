/-
  none, Len, textOf.
-/
import Derived.Test.YtiogegoepgkjlaaTM
import Derived.WalkMore
import Derived.Laws.IdiomStrings
import Derived.Lib.Builder
import Derived.Lib.UnsafeStr
import Derived.Lib.AppendStr
namespace Go.Proofs.Ytiogegoepgkjlaa
open Go.RowKit

end Go.Proofs.Ytiogegoepgkjlaa

namespace Go.Proofs.Ytiogegoepgkjlaa
open Go.RowKit

/-- the number of bytes, the highest first -/
def val (l : List UInt8) : Nat := l.foldl (fun v c => v * 256 + c.toNat) 0

end Go.Proofs.Ytiogegoepgkjlaa

namespace Go.Proofs.Ytiogegoepgkjlaa
open Go.RowKit

end Go.Proofs.Ytiogegoepgkjlaa

namespace Go.Proofs.Ytiogegoepgkjlaa
open Go.RowKit

theorem Row.form {e : TypeId} {sz n : Nat} {v : Value} {xs : List Value} {Lr : List (Nat × TypeId × Array Value)} (h : Row e sz v n xs Lr) : ∃ p c, v = .slice p n c := by
  rcases h.2 with ⟨h1, h2, _⟩ | ⟨g, cap, cur, h1, _⟩
  · exact ⟨none, 0, by rw [h1, h2]⟩
  · exact ⟨_, _, h1⟩
end Go.Proofs.Ytiogegoepgkjlaa

namespace Go.Proofs.Ytiogegoepgkjlaa
open Go.RowKit

end Go.Proofs.Ytiogegoepgkjlaa

namespace Go.Proofs.Ytiogegoepgkjlaa
open Go.RowKit

end Go.Proofs.Ytiogegoepgkjlaa

namespace Go.Proofs.Ytiogegoepgkjlaa
open Go.RowKit

end Go.Proofs.Ytiogegoepgkjlaa

namespace Go.Proofs.Ytiogegoepgkjlaa
open Go.RowKit

end Go.Proofs.Ytiogegoepgkjlaa
