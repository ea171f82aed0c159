/-
  the law of two texts.
-/
import Derived.Test.YtmlldbkhphngeaaDoorML
namespace Go.Proofs.YtmlldbkhphngeaaDoor
open Go.RowKit


section
variable {ρ : Operand → Value} {x y : Operand} {w : World} {dst : Option Tmp} {ty : TypeId} {pos : String} {aft : Array Edge} {gd : Option (Nat × Bool)}
theorem run_eqb (a b : Bool) (hx : ρ x = .bool a) (hy : ρ y = .bool b) : (execOp ρ ⟨dst, .binOp .eql 4 x y 4, ty, pos, aft, gd⟩).run Tryd.prog w = .ok (.value (.bool (a == b))) w := by
  simp only [execOp, hx, hy]
  cases a <;> cases b <;> go_simp
end

set_option linter.unusedVariables false in
set_option maxRecDepth 100000 in
set_option maxHeartbeats 2000000 in
theorem MacEqual_any (a b : ByteArray) (ha : a.size ≤ 140737488351232) (hb : b.size ≤ 140737488351232) (w : World) (VV : Vars w) :
    Calls Tryd.prog 5 #[.string a, .string b] w fun e w' => e = .returned (.bool true) ∧ Below w.heap.size w w' := by
  have H0 := HA.start w
  go_enter Tryd.func5, Tryd.ntmps5
  refine wp_seq ?_
  -- region 0
  refine wl_region ?_
  refine wl_val (.bool false) (by kernel_rfl) (by kernel_rfl) ?_
  refine wl_nil ?_
  refine then_at (F := ⟨(.string a :: .string b :: un :: un :: .bool false :: List.replicate 15 un).toArray, []⟩) (by kernel_rfl) ?_
  refine wp_seq ?_
  by_cases hc : a = b
  · -- region 1
    refine wl_region ?_
    refine wl_val (.string a) (by kernel_rfl) (by kernel_rfl) ?_
    refine wl_val (.string b) (by kernel_rfl) (by kernel_rfl) ?_
    refine wl_call (v := .bool true) H0 (by kernel_rfl) enter17 #[.string a, .string b] (by kernel_rfl) (ret_eq (equalc a b (by omega) (by omega) w) (congrArg Value.bool (decide_eq_true hc))) ?_
    intro w1 h2
    refine wl_val (.string a) (by kernel_rfl) (by kernel_rfl) ?_
    refine wl_val (.string b) (by kernel_rfl) (by kernel_rfl) ?_
    refine wl_val (.bool true) (by kernel_rfl) (run_eqs (s := a) (t := b) (by kernel_rfl) (by kernel_rfl) true (decide_eq_true hc)) ?_
    refine wl_val (.bool true) (by kernel_rfl) (run_eqb true true (by kernel_rfl) (by kernel_rfl)) ?_
    refine wl_val (.bool true) (by kernel_rfl) (by kernel_rfl) ?_
    refine wl_val (.string a) (by kernel_rfl) (by kernel_rfl) ?_
    refine wl_val (.string a) (by kernel_rfl) (by kernel_rfl) ?_
    refine wl_call (v := .bool true) h2 (by kernel_rfl) enter17 #[.string a, .string a] (by kernel_rfl) (ret_eq (equalc a a (by omega) (by omega) w1) (congrArg Value.bool (decide_eq_true rfl))) ?_
    intro w3 h4
    refine wl_val (.bool true) (by kernel_rfl) (by kernel_rfl) ?_
    refine wl_val (.bool true) (by kernel_rfl) (by kernel_rfl) ?_
    refine wl_call (v := .bool true) h4 (by kernel_rfl) enter14 #[] (by kernel_rfl) (worksc w3 (VV.below h4.old VV.big)) ?_
    intro w5 h6
    refine wl_val (.bool true) (by kernel_rfl) (by kernel_rfl) ?_
    refine wl_val (.bool true) (by kernel_rfl) (by kernel_rfl) ?_
    refine wl_nil ?_
    refine then_at (F := ⟨(.string a :: .string b :: un :: un :: .bool true :: .string a :: .string b :: .bool true :: .string a :: .string b :: .bool true :: .bool true :: .bool true :: .string a :: .string a :: .bool true :: .bool true :: .bool true :: .bool true :: .bool true :: List.replicate 0 un).toArray, []⟩) (by kernel_rfl) ?_
    refine wp_ret ?_
    repeat first | refine then_ret ?_ | refine block_ret ?_
    exact bodyPost_ret (v := .bool true) (by kernel_rfl) rfl ⟨rfl, h6.old⟩
  · -- region 1
    refine wl_region ?_
    refine wl_val (.string a) (by kernel_rfl) (by kernel_rfl) ?_
    refine wl_val (.string b) (by kernel_rfl) (by kernel_rfl) ?_
    refine wl_call (v := .bool false) H0 (by kernel_rfl) enter17 #[.string a, .string b] (by kernel_rfl) (ret_eq (equalc a b (by omega) (by omega) w) (congrArg Value.bool (decide_eq_false hc))) ?_
    intro w7 h8
    refine wl_val (.string a) (by kernel_rfl) (by kernel_rfl) ?_
    refine wl_val (.string b) (by kernel_rfl) (by kernel_rfl) ?_
    refine wl_val (.bool false) (by kernel_rfl) (run_eqs (s := a) (t := b) (by kernel_rfl) (by kernel_rfl) false (decide_eq_false hc)) ?_
    refine wl_val (.bool true) (by kernel_rfl) (run_eqb false false (by kernel_rfl) (by kernel_rfl)) ?_
    refine wl_val (.bool true) (by kernel_rfl) (by kernel_rfl) ?_
    refine wl_val (.string a) (by kernel_rfl) (by kernel_rfl) ?_
    refine wl_val (.string a) (by kernel_rfl) (by kernel_rfl) ?_
    refine wl_call (v := .bool true) h8 (by kernel_rfl) enter17 #[.string a, .string a] (by kernel_rfl) (ret_eq (equalc a a (by omega) (by omega) w7) (congrArg Value.bool (decide_eq_true rfl))) ?_
    intro w9 h10
    refine wl_val (.bool true) (by kernel_rfl) (by kernel_rfl) ?_
    refine wl_val (.bool true) (by kernel_rfl) (by kernel_rfl) ?_
    refine wl_call (v := .bool true) h10 (by kernel_rfl) enter14 #[] (by kernel_rfl) (worksc w9 (VV.below h10.old VV.big)) ?_
    intro w11 h12
    refine wl_val (.bool true) (by kernel_rfl) (by kernel_rfl) ?_
    refine wl_val (.bool true) (by kernel_rfl) (by kernel_rfl) ?_
    refine wl_nil ?_
    refine then_at (F := ⟨(.string a :: .string b :: un :: un :: .bool true :: .string a :: .string b :: .bool false :: .string a :: .string b :: .bool false :: .bool true :: .bool true :: .string a :: .string a :: .bool true :: .bool true :: .bool true :: .bool true :: .bool true :: List.replicate 0 un).toArray, []⟩) (by kernel_rfl) ?_
    refine wp_ret ?_
    repeat first | refine then_ret ?_ | refine block_ret ?_
    exact bodyPost_ret (v := .bool true) (by kernel_rfl) rfl ⟨rfl, h12.old⟩
end Go.Proofs.YtmlldbkhphngeaaDoor
