/-
 What is known, by what the terms are.
-/
import Derived.Test.YtihfeoanognonaaGreatT17
namespace Go.Proofs.YtihfeoanognonaaGreat
open Go.RowKit
inductive Itm where
 | n
 | d (w : List Nat)
 | m (k n : Nat) (ps : List Nat)
end Go.Proofs.YtihfeoanognonaaGreat
