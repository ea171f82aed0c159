/-
  part: the term of a part; Fresh, Data.
-/
import Derived.Test.YtmidladenidngaaGA
namespace Go.Proofs.Ytmidladenidngaa
open Go.RowKit

abbrev BL := List (Nat × TypeId × Array Value)
abbrev ML := List (Nat × Array MapEntry × Nat)
end Go.Proofs.Ytmidladenidngaa
