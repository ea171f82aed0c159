/-
  publicOf, layHalf, layMade.
-/
import Derived.Test.YtoogiblkommdfaaGreatGC
namespace Go.Proofs.YtoogiblkommdfaaGreat
open Go.RowKit

end Go.Proofs.YtoogiblkommdfaaGreat

namespace Go.Proofs.YtoogiblkommdfaaGreat
open Go.RowKit

end Go.Proofs.YtoogiblkommdfaaGreat

namespace Go.Proofs.YtoogiblkommdfaaGreat
open Go.RowKit

theorem made_rep (v : Value) (c : Nat) : madeCells #[v] c = (List.replicate c v).toArray := by
  apply Array.ext
  · simp [size_madeCells]
  · intro i h1 h2
    simp [madeCells, Nat.mod_one]
end Go.Proofs.YtoogiblkommdfaaGreat

namespace Go.Proofs.YtoogiblkommdfaaGreat
open Go.RowKit

inductive Itm where
  | n
  | d (w : List Nat)
  | m (k n : Nat) (ps : List Nat)
end Go.Proofs.YtoogiblkommdfaaGreat

namespace Go.Proofs.YtoogiblkommdfaaGreat
open Go.RowKit

end Go.Proofs.YtoogiblkommdfaaGreat
