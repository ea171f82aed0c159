/-
  What the laws' walks share.
-/
import Derived.Test.YtbmfmamhidccbaaDoorBackT
import Derived.Test.YtbmfmamhidccbaaDoorEl
import Derived.Test.YtbmfmamhidccbaaDoorOps
namespace Go.Proofs.YtbmfmamhidccbaaDoor
open Go.RowKit Num

theorem Same_yes (a b : Nat) (ha : a < P) (hb : b < P) (h : a = b) (w : World) :
    Calls Tryd.prog 30 #[arr a, arr b] w fun e w' => e = .returned (.bool true) ∧ Below w.heap.size w w' := by
  have h1 := Same_any a b (Nat.lt_trans ha P_lt) (Nat.lt_trans hb P_lt) w
  rw [decide_eq_true h] at h1
  exact h1
theorem Same_no (a b : Nat) (ha : a < P) (hb : b < P) (h : a ≠ b) (w : World) :
    Calls Tryd.prog 30 #[arr a, arr b] w fun e w' => e = .returned (.bool false) ∧ Below w.heap.size w w' := by
  have h1 := Same_any a b (Nat.lt_trans ha P_lt) (Nat.lt_trans hb P_lt) w
  rw [decide_eq_false h] at h1
  exact h1
theorem Odd_yes (a : Nat) (h : a % 2 = 1) (w : World) :
    Calls Tryd.prog 15 #[arr a] w fun e w' => e = .returned (.bool true) ∧ Below w.heap.size w w' := by
  have h1 := Odd_any a w
  rw [decide_eq_true h] at h1
  exact h1
theorem Odd_no (a : Nat) (h : a % 2 = 0) (w : World) :
    Calls Tryd.prog 15 #[arr a] w fun e w' => e = .returned (.bool false) ∧ Below w.heap.size w w' := by
  have h1 := Odd_any a w
  rw [decide_eq_false (by omega)] at h1
  exact h1
theorem info40 : (Tryd.prog.info? 40).map (·.size) = some 32 := by kernel_rfl
theorem run_eqb {ρ : Operand → Value} {x y : Operand} (p q : Bool) {w : World} {dst : Option Tmp} {ty : TypeId} {pos : String} {aft : Array Edge} {gd : Option (Nat × Bool)} (hx : ρ x = .bool p) (hy : ρ y = .bool q) :
    (execOp ρ ⟨dst, .binOp .eql 4 x y 4, ty, pos, aft, gd⟩).run Tryd.prog w = .ok (.value (.bool (p == q))) w := by
  simp only [execOp, hx, hy]
  cases p <;> cases q <;> go_simp
theorem run_neb {ρ : Operand → Value} {x y : Operand} (p q : Bool) {w : World} {dst : Option Tmp} {ty : TypeId} {pos : String} {aft : Array Edge} {gd : Option (Nat × Bool)} (hx : ρ x = .bool p) (hy : ρ y = .bool q) :
    (execOp ρ ⟨dst, .binOp .neq 4 x y 4, ty, pos, aft, gd⟩).run Tryd.prog w = .ok (.value (.bool (p != q))) w := by
  simp only [execOp, hx, hy]
  cases p <;> cases q <;> go_simp
end Go.Proofs.YtbmfmamhidccbaaDoor
