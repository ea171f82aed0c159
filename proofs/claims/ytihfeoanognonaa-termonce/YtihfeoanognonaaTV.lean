/-
 What is known, by what the terms are.
-/
import Derived.Test.YtihfeoanognonaaT17
namespace Go.Proofs.Ytihfeoanognonaa
open Go.RowKit
inductive Itm where
 | n
 | d (w : List Nat)
 | m (k n : Nat) (ps : List Nat)
end Go.Proofs.Ytihfeoanognonaa
