/-
 What stands within bytes: the mathematics; sorting and compacting a row of numbers.
-/
import Derived.Test.YtihfeoanognonaaT10
import Derived.Lib.IndexMore
namespace Go.Proofs.Ytihfeoanognonaa
open Go.RowKit
/-! where terms' texts stand -/
theorem firstT_some {m : Nat} {s : ByteArray} {x : Nat} (h : firstT m s = some x) : 8 ≤ s.size ∧ s.extract 0 4 = hdS ∧ x < m := by
 unfold firstT at h
 split at h
 ·rename_i h1
  obtain rfl := Option.some.inj h
  exact ⟨h1.1, h1.2.1, h1.2.2⟩
 ·cases h
/-! rising rows -/
end Go.Proofs.Ytihfeoanognonaa
