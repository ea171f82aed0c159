/-
  What stands within bytes: the mathematics; sorting and compacting a row of numbers.
-/
import Derived.Test.YtoogiblkommdfaaGreatT10
import Derived.Lib.IndexMore
import Derived.Test.YtoogiblkommdfaaGreatSh
namespace Go.Proofs.YtoogiblkommdfaaGreat
open Go.RowKit

/-! where terms' texts stand -/
/-! rising rows -/
end Go.Proofs.YtoogiblkommdfaaGreat

namespace Go.Proofs.YtoogiblkommdfaaGreat
open Go.RowKit

end Go.Proofs.YtoogiblkommdfaaGreat

namespace Go.Proofs.YtoogiblkommdfaaGreat
open Go.RowKit

def inl (l : List Nat) : List Value := l.map (iN .i64 ·)
/-- rows of numbers, one for each -/
inductive NRows : List Value → List (List Nat) → BL → Prop
  | nil : NRows [] [] []
  | cons {v : Value} {vs : List Value} {l : List Nat} {ls : List (List Nat)} {A B : BL} (h : Row 3 1 v l.length (inl l) A) (hs : NRows vs ls B) : NRows (v :: vs) (l :: ls) (A ++ B)
/-! what the program does -/
end Go.Proofs.YtoogiblkommdfaaGreat

namespace Go.Proofs.YtoogiblkommdfaaGreat
open Go.RowKit

end Go.Proofs.YtoogiblkommdfaaGreat
