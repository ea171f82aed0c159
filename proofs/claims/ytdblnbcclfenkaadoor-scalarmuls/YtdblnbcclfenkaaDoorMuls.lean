/-
  ScalarMuls: the walk.
-/
import Derived.Test.YtdblnbcclfenkaaDoorRefS4
namespace Go.Proofs.YtdblnbcclfenkaaDoor
open Go.RowKit Num


set_option linter.unusedVariables false in
set_option maxRecDepth 100000 in
set_option maxHeartbeats 4000000 in
theorem ScalarMuls_any (a b : ByteArray) (w : World) (VV : Vars w) :
    Calls Tryd.prog 5 #[.string a, .string b] w fun e w' => e = .returned (.bool true) ∧ Below w.heap.size w w' := by
  have H0 := HA.start w
  go_enter Tryd.func5, Tryd.ntmps5
  refine wp_seq ?_
  -- region 0
  refine wl_region ?_
  refine wl_val (.bool false) (by kernel_rfl) (by kernel_rfl) ?_
  refine wl_nil ?_
  refine then_at (F := ⟨(.string a :: .string b :: un :: un :: .bool false :: List.replicate 10 un).toArray, []⟩) (by kernel_rfl) ?_
  refine wp_seq ?_
  -- region 1
  refine wl_region ?_
  refine wl_val (.string a) (by kernel_rfl) (by kernel_rfl) ?_
  refine wl_val (.string b) (by kernel_rfl) (by kernel_rfl) ?_
  refine wl_call (v := .string (mS a b)) H0 (by kernel_rfl) enter19 #[.string a, .string b] (by kernel_rfl) (Mul_any a b w (VV.below H0.old VV.big)) ?_
  intro w1 h2
  refine wl_val (.string a) (by kernel_rfl) (by kernel_rfl) ?_
  refine wl_val (.string b) (by kernel_rfl) (by kernel_rfl) ?_
  refine wl_call (v := .string (mS a b)) h2 (by kernel_rfl) enter20 #[.string a, .string b] (by kernel_rfl) (rMul_any a b w1) ?_
  intro w3 h4
  refine wl_val (.bool true) (by kernel_rfl) (run_eqs (s := mS a b) (t := mS a b) (by kernel_rfl) (by kernel_rfl) true (decide_eq_true rfl)) ?_
  refine wl_val (.bool true) (by kernel_rfl) (by kernel_rfl) ?_
  refine wl_call (v := .bool true) h4 (by kernel_rfl) enter16 #[] (by kernel_rfl) (works_any w3 (VV.below h4.old VV.big)) ?_
  intro w5 h6
  refine wl_val (.bool true) (by kernel_rfl) (by kernel_rfl) ?_
  refine wl_val (.bool true) (by kernel_rfl) (by kernel_rfl) ?_
  refine wl_nil ?_
  refine then_at (F := ⟨(.string a :: .string b :: un :: un :: .bool true :: .string a :: .string b :: .string (mS a b) :: .string a :: .string b :: .string (mS a b) :: .bool true :: .bool true :: .bool true :: .bool true :: List.replicate 0 un).toArray, []⟩) (by kernel_rfl) ?_
  refine wp_ret ?_
  repeat first | refine then_ret ?_ | refine block_ret ?_
  exact bodyPost_ret (v := .bool true) (by kernel_rfl) rfl ⟨rfl, h6.old⟩
end Go.Proofs.YtdblnbcclfenkaaDoor
