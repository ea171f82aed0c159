/-
 What is known is the least set that the rules close.
-/
import Derived.Test.YtihfeoanognonaaT17
namespace Go.Proofs.Ytihfeoanognonaa
open Go.RowKit
inductive Der (R : List (Nat × List Nat)) (S : Nat → Prop) : Nat → Prop
 | seen {x : Nat} : S x → Der R S x
 | rule {r : Nat × List Nat} : r ∈ R → (∀ y ∈ r.2, Der R S y) → Der R S r.1
/-! laying -/
end Go.Proofs.Ytihfeoanognonaa

namespace Go.Proofs.Ytihfeoanognonaa
open Go.RowKit
/-! more texts, no less; known texts, no more -/
section
variable {es : List Ent} (hwf : Wf es) (hwg : Wg es) (hm : es.length ≤ 400)
include hwf hwg hm
end
end Go.Proofs.Ytihfeoanognonaa
