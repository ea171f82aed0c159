/-
 What is known is the least set that the rules close.
-/
import Derived.Test.YtihfeoanognonaaT17
namespace Go.Proofs.Ytihfeoanognonaa
open Go.RowKit
inductive Der (R : List (Nat × List Nat)) (S : Nat → Prop) : Nat → Prop
 | seen {x : Nat} : S x → Der R S x
 | rule {r : Nat × List Nat} : r ∈ R → (∀ y ∈ r.2, Der R S y) → Der R S r.1
/-! laying -/
end Go.Proofs.Ytihfeoanognonaa

namespace Go.Proofs.Ytihfeoanognonaa
open Go.RowKit
/-! more texts, no less; known texts, no more -/
theorem t400 : (List.range 400).all (fun i => decide (n4 (txt i) = i) && decide ((txt i).extract 0 4 = hdS)) = true := by decide +kernel
theorem first_txt {m i : Nat} (hi : i < m) (hm : m ≤ 400) : firstT m (txt i) = some i := by
 have h := (List.all_eq_true.1 t400) i (List.mem_range.2 (by omega))
 rw [Bool.and_eq_true] at h
 have h1 := of_decide_eq_true h.1
 have h2 := of_decide_eq_true h.2
 unfold firstT
 rw [if_pos ⟨by rw [txt_size]; exact Nat.le_refl _, h2, by rw [h1]; exact hi⟩, h1]
section
variable {es : List Ent} (hwf : Wf es) (hwg : Wg es) (hm : es.length ≤ 400)
include hwf hwg hm
end
end Go.Proofs.Ytihfeoanognonaa
