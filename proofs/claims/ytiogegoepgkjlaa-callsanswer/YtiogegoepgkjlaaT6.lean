/-
  part: the term of a part; Fresh, Data.
-/
import Derived.Test.YtiogegoepgkjlaaGA
namespace Go.Proofs.Ytiogegoepgkjlaa
open Go.RowKit

abbrev BL := List (Nat × TypeId × Array Value)
abbrev ML := List (Nat × Array MapEntry × Nat)
end Go.Proofs.Ytiogegoepgkjlaa
