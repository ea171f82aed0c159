/-
  The reference's word, May, EncodeBundle, DecodeBundle.
-/
import Derived.Test.YtiogegoepgkjlaaX5
namespace Go.Proofs.Ytiogegoepgkjlaa
open Go.RowKit

theorem mayX_of {x : Bu} (u : 0 ≤ x.u ∧ x.u ≤ 2) (d : 0 ≤ x.d ∧ x.d ≤ 1) (p : 1 ≤ x.pi ∧ x.pi ≤ 1073741824) (h1 : wo x.sg = true) (h2 : wo x.dh = true) (h3 : wo x.pr = true) (h4 : wo x.ps = true) (h5 : (x.oi = 0 ∧ x.on = { data := #[] }) ∨ (1 ≤ x.oi ∧ x.oi ≤ 1073741824 ∧ wo x.on = true)) : mayX x = true := by
  unfold mayX
  rw [h1, h2, h3, h4, wi, wi, wi, decide_eq_true u.1, decide_eq_true u.2, decide_eq_true d.1, decide_eq_true d.2, decide_eq_true p.1, decide_eq_true p.2]
  rcases h5 with ⟨a, b⟩ | ⟨a, b, c⟩
  · have e : x = bare x := by
      obtain ⟨x1, x2, x3, x4, x5, x6, x7, x8, x9⟩ := x
      simp only at a b
      subst a b
      rfl
    rw [decide_eq_true e]; rfl
  · rw [wi, decide_eq_true a, decide_eq_true b, c]; simp
end Go.Proofs.Ytiogegoepgkjlaa
