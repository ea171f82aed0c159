/-
  The digests of the closed law, reckoned.
-/
import Derived.Test.YtdhgjnfdbhidcaaDoorHK
namespace Go.Proofs.YtdhgjnfdbhidcaaDoor
theorem hS_eq (k : Nat) (hk : k < 4) : hS k = tS.getD k ByteArray.empty := (by decide +kernel : ∀ k : Fin 4, hS k.1 = tS.getD k.1 ByteArray.empty) ⟨k, hk⟩
theorem hL_eq (k : Nat) (hk : k < 4) : hL k = tL.getD k ByteArray.empty := (by decide +kernel : ∀ k : Fin 4, hL k.1 = tL.getD k.1 ByteArray.empty) ⟨k, hk⟩
end Go.Proofs.YtdhgjnfdbhidcaaDoor
