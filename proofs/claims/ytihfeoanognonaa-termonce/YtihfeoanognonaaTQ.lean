/-
 The web of rules: the model, and how it lies in memory.
-/
import Derived.Test.YtihfeoanognonaaT11
namespace Go.Proofs.Ytihfeoanognonaa
open Go.RowKit
def inl (l : List Nat) : List Value := l.map (iN .i64 ·)
inductive NRows : List Value → List (List Nat) → BL → Prop
 | nil : NRows [] [] []
 | cons {v : Value} {vs : List Value} {l : List Nat} {ls : List (List Nat)} {A B : BL} (h : Row 3 1 v l.length (inl l) A) (hs : NRows vs ls B) : NRows (v :: vs) (l :: ls) (A ++ B)
/-! what the program does -/
end Go.Proofs.Ytihfeoanognonaa
