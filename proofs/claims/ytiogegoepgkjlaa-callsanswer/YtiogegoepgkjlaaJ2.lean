/-
  The reference's SameCall, bare, MayCall, Check.
-/
import Derived.Test.YtiogegoepgkjlaaJ1
import Derived.Test.YtiogegoepgkjlaaCM
set_option linter.unusedVariables false
set_option linter.unusedSimpArgs false
namespace Go.Proofs.Ytiogegoepgkjlaa
open Go.RowKit

theorem encA_b (b : Bu) : (!decide ((encA b).1 = { data := #[] })) = decide ((encA b).2 = 0) := by
  rcases h : mayX b with _ | _
  · have e : encA b = ({ data := #[] }, 2) := by unfold encA; rw [h]; rfl
    rw [e]; rfl
  · have h2 : (encA b).2 = 0 := by unfold encA; rw [h]; rfl
    rw [h2]
    have h1 : (encA b).1 ≠ { data := #[] } := by
      intro e
      have h3 := decA_enc h
      rw [e] at h3
      have h4 := congrArg Prod.snd h3
      exact absurd (show (4 : Nat) = 0 from (show (4 : Nat) = (decA { data := #[] }).2 from by kernel_rfl).trans h4) (by decide)
    rw [decide_eq_false h1]; rfl
end Go.Proofs.Ytiogegoepgkjlaa
