/-
  none, dark, refused, Down, Free, isName.
-/
import Derived.Test.YtjedhnjjgmbcbaaDM
namespace Go.Proofs.Ytjedhnjjgmbcbaa
open Go.RowKit

section
variable {P : Program} {ρ : Operand → Value} {x y : Operand} {w : World} {dst : Option Tmp} {T T2 ty : TypeId} {pos : String} {aft : Array Edge} {gd : Option (Nat × Bool)}
theorem run_nes {s t : ByteArray} (hx : ρ x = .string s) (hy : ρ y = .string t) (r : Bool) (hr : decide (s = t) = !r) : (execOp ρ ⟨dst, .binOp .neq T x y T2, ty, pos, aft, gd⟩).run P w = .ok (.value (.bool r)) w := by
  have hr' : (!decide (s = t)) = r := by rw [hr]; simp
  subst hr'
  simp only [execOp, hx, hy]
  by_cases h : s = t
  · subst h; simp [binOp, go_sem, Op.stringOp]
  · have h2 : ¬s.toList = t.toList := fun e => by
      rw [ByteArray.toList_eq, ByteArray.toList_eq] at e
      refine h ?_
      obtain ⟨⟨l⟩⟩ := s
      obtain ⟨⟨m⟩⟩ := t
      exact congrArg (fun l : List UInt8 => (⟨⟨l⟩⟩ : ByteArray)) e
    simp [binOp, go_sem, Op.stringOp, h, h2]
end
set_option linter.unusedVariables false in
set_option maxRecDepth 100000 in
set_option maxHeartbeats 2000000 in
theorem none_no {w : World} {q r fr lf : Nat} {dn : Bool} {v : Value} (hq : Blk w q 61 (dcell r fr lf dn v)) :
    Calls Try.prog 50 #[pt q] w fun e w' => e = .returned (.bool false) ∧ Below w.heap.size w w' := by
  have H0 := HA.start w
  go_enter Try.func50, Try.ntmps50
  refine wp_seq ?_
  refine wl_region ?_
  refine wl_val (.bool false) (by kernel_rfl) (by kernel_rfl) ?_
  refine wl_nil ?_
  refine then_at (F := ⟨(pt q :: un :: .bool false :: List.replicate 9 un).toArray, []⟩) (by kernel_rfl) ?_
  refine wp_seq ?_
  refine wl_region ?_
  refine wl_val (.pointer (some ⟨q, 0, none⟩)) (by kernel_rfl) (by kernel_rfl) ?_
  refine wl_val (.bool false) (by kernel_rfl) (by kernel_rfl) ?_
  refine wl_val (.bool false) (by kernel_rfl) (by kernel_rfl) ?_
  refine wl_val (.pointer (some ⟨q, 0, none⟩)) (by kernel_rfl) (by kernel_rfl) ?_
  refine wl_val (.pointer (some ⟨q, 0, none⟩)) (by kernel_rfl) (by kernel_rfl) ?_
  refine wl_val (.pointer (some ⟨q, 0, none⟩)) (by kernel_rfl) (by kernel_rfl) ?_
  refine wl_val (.map (some r)) (by kernel_rfl) (run_load1 (fun w => Try.isAgg59 w) (by kernel_rfl) (((hq.keep H0.old.old).cell 0).trans rfl)) ?_
  refine wl_val (.bool false) (by kernel_rfl) (by kernel_rfl) ?_
  refine wl_val (.bool false) (by kernel_rfl) (by kernel_rfl) ?_
  refine wl_val (.bool false) (by kernel_rfl) (by kernel_rfl) ?_
  refine wl_nil ?_
  refine then_at (F := ⟨(pt q :: un :: .bool false :: pt q :: .bool false :: .bool false :: pt q :: pt q :: pt q :: .map (some r) :: .bool false :: .bool false :: List.replicate 0 un).toArray, []⟩) (by kernel_rfl) ?_
  refine wp_ret ?_
  repeat first | refine then_ret ?_ | refine block_ret ?_
  exact bodyPost_ret (v := .bool false) (by kernel_rfl) rfl ⟨rfl, H0.old.old⟩
set_option linter.unusedVariables false in
set_option maxRecDepth 100000 in
set_option maxHeartbeats 2000000 in
theorem none_nil (w : World) :
    Calls Try.prog 50 #[.pointer none] w fun e w' => e = .returned (.bool true) ∧ Below w.heap.size w w' := by
  have H0 := HA.start w
  go_enter Try.func50, Try.ntmps50
  refine wp_seq ?_
  refine wl_region ?_
  refine wl_val (.bool false) (by kernel_rfl) (by kernel_rfl) ?_
  refine wl_nil ?_
  refine then_at (F := ⟨(.pointer none :: un :: .bool false :: List.replicate 9 un).toArray, []⟩) (by kernel_rfl) ?_
  refine wp_seq ?_
  refine wl_region ?_
  refine wl_val (.pointer none) (by kernel_rfl) (by kernel_rfl) ?_
  refine wl_val (.bool true) (by kernel_rfl) (by kernel_rfl) ?_
  refine wl_val (.bool true) (by kernel_rfl) (by kernel_rfl) ?_
  refine wl_skip (by kernel_rfl) ?_
  refine wl_skip (by kernel_rfl) ?_
  refine wl_skip (by kernel_rfl) ?_
  refine wl_skip (by kernel_rfl) ?_
  refine wl_skip (by kernel_rfl) ?_
  refine wl_val (.bool true) (by kernel_rfl) (by kernel_rfl) ?_
  refine wl_val (.bool true) (by kernel_rfl) (by kernel_rfl) ?_
  refine wl_nil ?_
  refine then_at (F := ⟨(.pointer none :: un :: .bool true :: .pointer none :: .bool true :: .bool true :: un :: un :: un :: un :: un :: .bool true :: List.replicate 0 un).toArray, []⟩) (by kernel_rfl) ?_
  refine wp_ret ?_
  repeat first | refine then_ret ?_ | refine block_ret ?_
  exact bodyPost_ret (v := .bool true) (by kernel_rfl) rfl ⟨rfl, H0.old.old⟩
set_option linter.unusedVariables false in
set_option maxRecDepth 100000 in
set_option maxHeartbeats 2000000 in
theorem dark_true {w : World} {q r fr lf : Nat} {v : Value} (hq : Blk w q 61 (dcell r fr lf true v)) :
    Calls Try.prog 59 #[pt q] w fun e w' => e = .returned (.bool true) ∧ Below w.heap.size w w' := by
  have H0 := HA.start w
  go_enter Try.func59, Try.ntmps59
  refine wp_seq ?_
  refine wl_region ?_
  refine wl_val (.bool false) (by kernel_rfl) (by kernel_rfl) ?_
  refine wl_nil ?_
  refine then_at (F := ⟨(pt q :: un :: .bool false :: List.replicate 8 un).toArray, []⟩) (by kernel_rfl) ?_
  refine wp_seq ?_
  refine wl_region ?_
  refine wl_val (.pointer (some ⟨q, 0, none⟩)) (by kernel_rfl) (by kernel_rfl) ?_
  refine wl_call (v := .bool false) H0 (by kernel_rfl) enter50 #[.pointer (some ⟨q, 0, none⟩)] (by kernel_rfl) (none_no (hq.keep H0.old.old)) ?_
  intro w1 h2
  refine wl_val (.bool false) (by kernel_rfl) (by kernel_rfl) ?_
  refine wl_val (.pointer (some ⟨q, 0, none⟩)) (by kernel_rfl) (by kernel_rfl) ?_
  refine wl_val (.pointer (some ⟨q, 0, none⟩)) (by kernel_rfl) (by kernel_rfl) ?_
  refine wl_val (.pointer (some ⟨q, 3, none⟩)) (by kernel_rfl) (by kernel_rfl) ?_
  refine wl_val (.bool true) (by kernel_rfl) (run_load1 (fun w => Try.isAgg4 w) (by kernel_rfl) (((hq.keep h2.old.old).cell 3).trans rfl)) ?_
  refine wl_val (.bool true) (by kernel_rfl) (by kernel_rfl) ?_
  refine wl_val (.bool true) (by kernel_rfl) (by kernel_rfl) ?_
  refine wl_nil ?_
  refine then_at (F := ⟨(pt q :: un :: .bool true :: pt q :: .bool false :: .bool false :: pt q :: pt q :: .pointer (some ⟨q, 3, none⟩) :: .bool true :: .bool true :: List.replicate 0 un).toArray, []⟩) (by kernel_rfl) ?_
  refine wp_ret ?_
  repeat first | refine then_ret ?_ | refine block_ret ?_
  exact bodyPost_ret (v := .bool true) (by kernel_rfl) rfl ⟨rfl, h2.old.old⟩
set_option linter.unusedVariables false in
set_option maxRecDepth 100000 in
set_option maxHeartbeats 2000000 in
theorem refused_true {w : World} {q r fr lf : Nat} {v : Value} (hq : Blk w q 61 (dcell r fr lf true v)) :
    Calls Try.prog 49 #[pt q] w fun e w' => e = .returned (iN .i64 16) ∧ Below w.heap.size w w' := by
  have H0 := HA.start w
  go_enter Try.func49, Try.ntmps49
  refine wp_seq ?_
  refine wl_region ?_
  refine wl_val (iN .i64 0) (by kernel_rfl) (by kernel_rfl) ?_
  refine wl_nil ?_
  refine then_at (F := ⟨(pt q :: un :: iN .i64 0 :: List.replicate 8 un).toArray, []⟩) (by kernel_rfl) ?_
  refine wp_seq ?_
  refine wp_block ?_
  refine wp_seq ?_
  refine wl_region ?_
  refine wl_val (.pointer (some ⟨q, 0, none⟩)) (by kernel_rfl) (by kernel_rfl) ?_
  refine wl_call (v := .bool false) H0 (by kernel_rfl) enter50 #[.pointer (some ⟨q, 0, none⟩)] (by kernel_rfl) (none_no (hq.keep H0.old.old)) ?_
  intro w1 h2
  refine wl_val (.bool false) (by kernel_rfl) (by kernel_rfl) ?_
  refine wl_nil ?_
  refine then_at (F := ⟨(pt q :: un :: iN .i64 0 :: .bool false :: pt q :: .bool false :: List.replicate 5 un).toArray, []⟩) (by kernel_rfl) ?_
  refine wp_cond_false (by kernel_rfl) ?_
  refine wp_seq ?_
  refine wl_region ?_
  refine wl_val (.pointer (some ⟨q, 0, none⟩)) (by kernel_rfl) (by kernel_rfl) ?_
  refine wl_val (.pointer (some ⟨q, 0, none⟩)) (by kernel_rfl) (by kernel_rfl) ?_
  refine wl_val (.pointer (some ⟨q, 3, none⟩)) (by kernel_rfl) (by kernel_rfl) ?_
  refine wl_val (.bool true) (by kernel_rfl) (run_load1 (fun w => Try.isAgg4 w) (by kernel_rfl) (((hq.keep h2.old.old).cell 3).trans rfl)) ?_
  refine wl_val (.bool true) (by kernel_rfl) (by kernel_rfl) ?_
  refine wl_nil ?_
  refine then_at (F := ⟨(pt q :: un :: iN .i64 0 :: .bool false :: pt q :: .bool false :: .bool true :: pt q :: pt q :: .pointer (some ⟨q, 3, none⟩) :: .bool true :: List.replicate 0 un).toArray, []⟩) (by kernel_rfl) ?_
  refine wp_cond_true (by kernel_rfl) ?_
  refine wp_seq ?_
  refine wl_region ?_
  refine wl_val (iN .i64 16) (by kernel_rfl) (by kernel_rfl) ?_
  refine wl_nil ?_
  refine then_at (F := ⟨(pt q :: un :: iN .i64 16 :: .bool false :: pt q :: .bool false :: .bool true :: pt q :: pt q :: .pointer (some ⟨q, 3, none⟩) :: .bool true :: List.replicate 0 un).toArray, []⟩) (by kernel_rfl) ?_
  refine wp_ret ?_
  repeat first | refine then_ret ?_ | refine block_ret ?_
  exact bodyPost_ret (v := iN .i64 16) (by kernel_rfl) rfl ⟨rfl, h2.old.old⟩
set_option linter.unusedVariables false in
set_option maxRecDepth 100000 in
set_option maxHeartbeats 2000000 in
theorem Down_true {w : World} {q r fr lf : Nat} {v : Value} (hq : Blk w q 61 (dcell r fr lf true v)) :
    Calls Try.prog 27 #[pt q] w fun e w' => e = .returned (.bool true) ∧ Below w.heap.size w w' := by
  have H0 := HA.start w
  go_enter Try.func27, Try.ntmps27
  refine wp_seq ?_
  refine wl_region ?_
  refine wl_val (.bool false) (by kernel_rfl) (by kernel_rfl) ?_
  refine wl_nil ?_
  refine then_at (F := ⟨(pt q :: un :: .bool false :: List.replicate 9 un).toArray, []⟩) (by kernel_rfl) ?_
  refine wp_seq ?_
  refine wl_region ?_
  refine wl_val (.pointer (some ⟨q, 0, none⟩)) (by kernel_rfl) (by kernel_rfl) ?_
  refine wl_call (v := .bool false) H0 (by kernel_rfl) enter50 #[.pointer (some ⟨q, 0, none⟩)] (by kernel_rfl) (none_no (hq.keep H0.old.old)) ?_
  intro w1 h2
  refine wl_val (.bool true) (by kernel_rfl) (by kernel_rfl) ?_
  refine wl_val (.bool true) (by kernel_rfl) (by kernel_rfl) ?_
  refine wl_val (.pointer (some ⟨q, 0, none⟩)) (by kernel_rfl) (by kernel_rfl) ?_
  refine wl_val (.pointer (some ⟨q, 0, none⟩)) (by kernel_rfl) (by kernel_rfl) ?_
  refine wl_val (.pointer (some ⟨q, 3, none⟩)) (by kernel_rfl) (by kernel_rfl) ?_
  refine wl_val (.bool true) (by kernel_rfl) (run_load1 (fun w => Try.isAgg4 w) (by kernel_rfl) (((hq.keep h2.old.old).cell 3).trans rfl)) ?_
  refine wl_val (.bool true) (by kernel_rfl) (by kernel_rfl) ?_
  refine wl_val (.bool true) (by kernel_rfl) (by kernel_rfl) ?_
  refine wl_nil ?_
  refine then_at (F := ⟨(pt q :: un :: .bool true :: pt q :: .bool false :: .bool true :: .bool true :: pt q :: pt q :: .pointer (some ⟨q, 3, none⟩) :: .bool true :: .bool true :: List.replicate 0 un).toArray, []⟩) (by kernel_rfl) ?_
  refine wp_ret ?_
  repeat first | refine then_ret ?_ | refine block_ret ?_
  exact bodyPost_ret (v := .bool true) (by kernel_rfl) rfl ⟨rfl, h2.old.old⟩
set_option linter.unusedVariables false in
set_option maxRecDepth 100000 in
set_option maxHeartbeats 2000000 in
theorem dark_false {w : World} {q r fr lf : Nat} {v : Value} (hq : Blk w q 61 (dcell r fr lf false v)) :
    Calls Try.prog 59 #[pt q] w fun e w' => e = .returned (.bool false) ∧ Below w.heap.size w w' := by
  have H0 := HA.start w
  go_enter Try.func59, Try.ntmps59
  refine wp_seq ?_
  refine wl_region ?_
  refine wl_val (.bool false) (by kernel_rfl) (by kernel_rfl) ?_
  refine wl_nil ?_
  refine then_at (F := ⟨(pt q :: un :: .bool false :: List.replicate 8 un).toArray, []⟩) (by kernel_rfl) ?_
  refine wp_seq ?_
  refine wl_region ?_
  refine wl_val (.pointer (some ⟨q, 0, none⟩)) (by kernel_rfl) (by kernel_rfl) ?_
  refine wl_call (v := .bool false) H0 (by kernel_rfl) enter50 #[.pointer (some ⟨q, 0, none⟩)] (by kernel_rfl) (none_no (hq.keep H0.old.old)) ?_
  intro w1 h2
  refine wl_val (.bool false) (by kernel_rfl) (by kernel_rfl) ?_
  refine wl_val (.pointer (some ⟨q, 0, none⟩)) (by kernel_rfl) (by kernel_rfl) ?_
  refine wl_val (.pointer (some ⟨q, 0, none⟩)) (by kernel_rfl) (by kernel_rfl) ?_
  refine wl_val (.pointer (some ⟨q, 3, none⟩)) (by kernel_rfl) (by kernel_rfl) ?_
  refine wl_val (.bool false) (by kernel_rfl) (run_load1 (fun w => Try.isAgg4 w) (by kernel_rfl) (((hq.keep h2.old.old).cell 3).trans rfl)) ?_
  refine wl_val (.bool false) (by kernel_rfl) (by kernel_rfl) ?_
  refine wl_val (.bool false) (by kernel_rfl) (by kernel_rfl) ?_
  refine wl_nil ?_
  refine then_at (F := ⟨(pt q :: un :: .bool false :: pt q :: .bool false :: .bool false :: pt q :: pt q :: .pointer (some ⟨q, 3, none⟩) :: .bool false :: .bool false :: List.replicate 0 un).toArray, []⟩) (by kernel_rfl) ?_
  refine wp_ret ?_
  repeat first | refine then_ret ?_ | refine block_ret ?_
  exact bodyPost_ret (v := .bool false) (by kernel_rfl) rfl ⟨rfl, h2.old.old⟩
set_option linter.unusedVariables false in
set_option maxRecDepth 100000 in
set_option maxHeartbeats 2000000 in
theorem refused_false {w : World} {q r fr lf : Nat} {v : Value} (hq : Blk w q 61 (dcell r fr lf false v)) :
    Calls Try.prog 49 #[pt q] w fun e w' => e = .returned (iN .i64 0) ∧ Below w.heap.size w w' := by
  have H0 := HA.start w
  go_enter Try.func49, Try.ntmps49
  refine wp_seq ?_
  refine wl_region ?_
  refine wl_val (iN .i64 0) (by kernel_rfl) (by kernel_rfl) ?_
  refine wl_nil ?_
  refine then_at (F := ⟨(pt q :: un :: iN .i64 0 :: List.replicate 8 un).toArray, []⟩) (by kernel_rfl) ?_
  refine wp_seq ?_
  refine wp_block ?_
  refine wp_seq ?_
  refine wl_region ?_
  refine wl_val (.pointer (some ⟨q, 0, none⟩)) (by kernel_rfl) (by kernel_rfl) ?_
  refine wl_call (v := .bool false) H0 (by kernel_rfl) enter50 #[.pointer (some ⟨q, 0, none⟩)] (by kernel_rfl) (none_no (hq.keep H0.old.old)) ?_
  intro w1 h2
  refine wl_val (.bool false) (by kernel_rfl) (by kernel_rfl) ?_
  refine wl_nil ?_
  refine then_at (F := ⟨(pt q :: un :: iN .i64 0 :: .bool false :: pt q :: .bool false :: List.replicate 5 un).toArray, []⟩) (by kernel_rfl) ?_
  refine wp_cond_false (by kernel_rfl) ?_
  refine wp_seq ?_
  refine wl_region ?_
  refine wl_val (.pointer (some ⟨q, 0, none⟩)) (by kernel_rfl) (by kernel_rfl) ?_
  refine wl_val (.pointer (some ⟨q, 0, none⟩)) (by kernel_rfl) (by kernel_rfl) ?_
  refine wl_val (.pointer (some ⟨q, 3, none⟩)) (by kernel_rfl) (by kernel_rfl) ?_
  refine wl_val (.bool false) (by kernel_rfl) (run_load1 (fun w => Try.isAgg4 w) (by kernel_rfl) (((hq.keep h2.old.old).cell 3).trans rfl)) ?_
  refine wl_val (.bool false) (by kernel_rfl) (by kernel_rfl) ?_
  refine wl_nil ?_
  refine then_at (F := ⟨(pt q :: un :: iN .i64 0 :: .bool false :: pt q :: .bool false :: .bool false :: pt q :: pt q :: .pointer (some ⟨q, 3, none⟩) :: .bool false :: List.replicate 0 un).toArray, []⟩) (by kernel_rfl) ?_
  refine wp_cond_false (by kernel_rfl) ?_
  refine wp_skip ?_
  refine block_normal ?_
  refine then_at (F := ⟨(pt q :: un :: iN .i64 0 :: .bool false :: pt q :: .bool false :: .bool false :: pt q :: pt q :: .pointer (some ⟨q, 3, none⟩) :: .bool false :: List.replicate 0 un).toArray, []⟩) (by kernel_rfl) ?_
  refine wp_seq ?_
  refine wl_region ?_
  refine wl_val (iN .i64 0) (by kernel_rfl) (by kernel_rfl) ?_
  refine wl_nil ?_
  refine then_at (F := ⟨(pt q :: un :: iN .i64 0 :: .bool false :: pt q :: .bool false :: .bool false :: pt q :: pt q :: .pointer (some ⟨q, 3, none⟩) :: .bool false :: List.replicate 0 un).toArray, []⟩) (by kernel_rfl) ?_
  refine wp_ret ?_
  repeat first | refine then_ret ?_ | refine block_ret ?_
  exact bodyPost_ret (v := iN .i64 0) (by kernel_rfl) rfl ⟨rfl, h2.old.old⟩
set_option linter.unusedVariables false in
set_option maxRecDepth 100000 in
set_option maxHeartbeats 2000000 in
theorem Down_false {w : World} {q r fr lf : Nat} {v : Value} (hq : Blk w q 61 (dcell r fr lf false v)) :
    Calls Try.prog 27 #[pt q] w fun e w' => e = .returned (.bool false) ∧ Below w.heap.size w w' := by
  have H0 := HA.start w
  go_enter Try.func27, Try.ntmps27
  refine wp_seq ?_
  refine wl_region ?_
  refine wl_val (.bool false) (by kernel_rfl) (by kernel_rfl) ?_
  refine wl_nil ?_
  refine then_at (F := ⟨(pt q :: un :: .bool false :: List.replicate 9 un).toArray, []⟩) (by kernel_rfl) ?_
  refine wp_seq ?_
  refine wl_region ?_
  refine wl_val (.pointer (some ⟨q, 0, none⟩)) (by kernel_rfl) (by kernel_rfl) ?_
  refine wl_call (v := .bool false) H0 (by kernel_rfl) enter50 #[.pointer (some ⟨q, 0, none⟩)] (by kernel_rfl) (none_no (hq.keep H0.old.old)) ?_
  intro w1 h2
  refine wl_val (.bool true) (by kernel_rfl) (by kernel_rfl) ?_
  refine wl_val (.bool true) (by kernel_rfl) (by kernel_rfl) ?_
  refine wl_val (.pointer (some ⟨q, 0, none⟩)) (by kernel_rfl) (by kernel_rfl) ?_
  refine wl_val (.pointer (some ⟨q, 0, none⟩)) (by kernel_rfl) (by kernel_rfl) ?_
  refine wl_val (.pointer (some ⟨q, 3, none⟩)) (by kernel_rfl) (by kernel_rfl) ?_
  refine wl_val (.bool false) (by kernel_rfl) (run_load1 (fun w => Try.isAgg4 w) (by kernel_rfl) (((hq.keep h2.old.old).cell 3).trans rfl)) ?_
  refine wl_val (.bool false) (by kernel_rfl) (by kernel_rfl) ?_
  refine wl_val (.bool false) (by kernel_rfl) (by kernel_rfl) ?_
  refine wl_nil ?_
  refine then_at (F := ⟨(pt q :: un :: .bool false :: pt q :: .bool false :: .bool true :: .bool true :: pt q :: pt q :: .pointer (some ⟨q, 3, none⟩) :: .bool false :: .bool false :: List.replicate 0 un).toArray, []⟩) (by kernel_rfl) ?_
  refine wp_ret ?_
  repeat first | refine then_ret ?_ | refine block_ret ?_
  exact bodyPost_ret (v := .bool false) (by kernel_rfl) rfl ⟨rfl, h2.old.old⟩
set_option linter.unusedVariables false in
set_option maxRecDepth 100000 in
set_option maxHeartbeats 2000000 in
theorem dark_nil (w : World) :
    Calls Try.prog 59 #[.pointer none] w fun e w' => e = .returned (.bool true) ∧ Below w.heap.size w w' := by
  have H0 := HA.start w
  go_enter Try.func59, Try.ntmps59
  refine wp_seq ?_
  refine wl_region ?_
  refine wl_val (.bool false) (by kernel_rfl) (by kernel_rfl) ?_
  refine wl_nil ?_
  refine then_at (F := ⟨(.pointer none :: un :: .bool false :: List.replicate 8 un).toArray, []⟩) (by kernel_rfl) ?_
  refine wp_seq ?_
  refine wl_region ?_
  refine wl_val (.pointer none) (by kernel_rfl) (by kernel_rfl) ?_
  refine wl_call (v := .bool true) H0 (by kernel_rfl) enter50 #[.pointer none] (by kernel_rfl) (none_nil w) ?_
  intro w1 h2
  refine wl_val (.bool true) (by kernel_rfl) (by kernel_rfl) ?_
  refine wl_skip (by kernel_rfl) ?_
  refine wl_skip (by kernel_rfl) ?_
  refine wl_skip (by kernel_rfl) ?_
  refine wl_skip (by kernel_rfl) ?_
  refine wl_val (.bool true) (by kernel_rfl) (by kernel_rfl) ?_
  refine wl_val (.bool true) (by kernel_rfl) (by kernel_rfl) ?_
  refine wl_nil ?_
  refine then_at (F := ⟨(.pointer none :: un :: .bool true :: .pointer none :: .bool true :: .bool true :: un :: un :: un :: un :: .bool true :: List.replicate 0 un).toArray, []⟩) (by kernel_rfl) ?_
  refine wp_ret ?_
  repeat first | refine then_ret ?_ | refine block_ret ?_
  exact bodyPost_ret (v := .bool true) (by kernel_rfl) rfl ⟨rfl, h2.old.old⟩
set_option linter.unusedVariables false in
set_option maxRecDepth 100000 in
set_option maxHeartbeats 2000000 in
theorem refused_nil (w : World) :
    Calls Try.prog 49 #[.pointer none] w fun e w' => e = .returned (iN .i64 1) ∧ Below w.heap.size w w' := by
  have H0 := HA.start w
  go_enter Try.func49, Try.ntmps49
  refine wp_seq ?_
  refine wl_region ?_
  refine wl_val (iN .i64 0) (by kernel_rfl) (by kernel_rfl) ?_
  refine wl_nil ?_
  refine then_at (F := ⟨(.pointer none :: un :: iN .i64 0 :: List.replicate 8 un).toArray, []⟩) (by kernel_rfl) ?_
  refine wp_seq ?_
  refine wp_block ?_
  refine wp_seq ?_
  refine wl_region ?_
  refine wl_val (.pointer none) (by kernel_rfl) (by kernel_rfl) ?_
  refine wl_call (v := .bool true) H0 (by kernel_rfl) enter50 #[.pointer none] (by kernel_rfl) (none_nil w) ?_
  intro w1 h2
  refine wl_val (.bool true) (by kernel_rfl) (by kernel_rfl) ?_
  refine wl_nil ?_
  refine then_at (F := ⟨(.pointer none :: un :: iN .i64 0 :: .bool true :: .pointer none :: .bool true :: List.replicate 5 un).toArray, []⟩) (by kernel_rfl) ?_
  refine wp_cond_true (by kernel_rfl) ?_
  refine wp_seq ?_
  refine wl_region ?_
  refine wl_val (iN .i64 1) (by kernel_rfl) (by kernel_rfl) ?_
  refine wl_nil ?_
  refine then_at (F := ⟨(.pointer none :: un :: iN .i64 1 :: .bool true :: .pointer none :: .bool true :: List.replicate 5 un).toArray, []⟩) (by kernel_rfl) ?_
  refine wp_ret ?_
  repeat first | refine then_ret ?_ | refine block_ret ?_
  exact bodyPost_ret (v := iN .i64 1) (by kernel_rfl) rfl ⟨rfl, h2.old.old⟩
set_option linter.unusedVariables false in
set_option maxRecDepth 100000 in
set_option maxHeartbeats 2000000 in
theorem Down_nil (w : World) :
    Calls Try.prog 27 #[.pointer none] w fun e w' => e = .returned (.bool false) ∧ Below w.heap.size w w' := by
  have H0 := HA.start w
  go_enter Try.func27, Try.ntmps27
  refine wp_seq ?_
  refine wl_region ?_
  refine wl_val (.bool false) (by kernel_rfl) (by kernel_rfl) ?_
  refine wl_nil ?_
  refine then_at (F := ⟨(.pointer none :: un :: .bool false :: List.replicate 9 un).toArray, []⟩) (by kernel_rfl) ?_
  refine wp_seq ?_
  refine wl_region ?_
  refine wl_val (.pointer none) (by kernel_rfl) (by kernel_rfl) ?_
  refine wl_call (v := .bool true) H0 (by kernel_rfl) enter50 #[.pointer none] (by kernel_rfl) (none_nil w) ?_
  intro w1 h2
  refine wl_val (.bool false) (by kernel_rfl) (by kernel_rfl) ?_
  refine wl_val (.bool false) (by kernel_rfl) (by kernel_rfl) ?_
  refine wl_skip (by kernel_rfl) ?_
  refine wl_skip (by kernel_rfl) ?_
  refine wl_skip (by kernel_rfl) ?_
  refine wl_skip (by kernel_rfl) ?_
  refine wl_val (.bool false) (by kernel_rfl) (by kernel_rfl) ?_
  refine wl_val (.bool false) (by kernel_rfl) (by kernel_rfl) ?_
  refine wl_nil ?_
  refine then_at (F := ⟨(.pointer none :: un :: .bool false :: .pointer none :: .bool true :: .bool false :: .bool false :: un :: un :: un :: un :: .bool false :: List.replicate 0 un).toArray, []⟩) (by kernel_rfl) ?_
  refine wp_ret ?_
  repeat first | refine then_ret ?_ | refine block_ret ?_
  exact bodyPost_ret (v := .bool false) (by kernel_rfl) rfl ⟨rfl, h2.old.old⟩
set_option linter.unusedVariables false in
set_option maxRecDepth 100000 in
set_option maxHeartbeats 2000000 in
theorem Free_true {w : World} {q r fr lf : Nat} {v : Value} (hq : Blk w q 61 (dcell r fr lf true v)) :
    Calls Try.prog 31 #[pt q] w fun e w' => e = .returned (iN .i64 0) ∧ Below w.heap.size w w' := by
  have H0 := HA.start w
  go_enter Try.func31, Try.ntmps31
  refine wp_seq ?_
  refine wl_region ?_
  refine wl_val (iN .i64 0) (by kernel_rfl) (by kernel_rfl) ?_
  refine wl_nil ?_
  refine then_at (F := ⟨(pt q :: un :: iN .i64 0 :: List.replicate 6 un).toArray, []⟩) (by kernel_rfl) ?_
  refine wp_seq ?_
  refine wp_seq ?_
  refine wl_region ?_
  refine wl_val (.pointer (some ⟨q, 0, none⟩)) (by kernel_rfl) (by kernel_rfl) ?_
  refine wl_call (v := .bool true) H0 (by kernel_rfl) enter59 #[.pointer (some ⟨q, 0, none⟩)] (by kernel_rfl) (dark_true (hq.keep H0.old.old)) ?_
  intro w1 h2
  refine wl_nil ?_
  refine then_at (F := ⟨(pt q :: un :: iN .i64 0 :: pt q :: .bool true :: List.replicate 4 un).toArray, []⟩) (by kernel_rfl) ?_
  refine wp_cond_true (by kernel_rfl) ?_
  refine wp_seq ?_
  refine wl_region ?_
  refine wl_val (iN .i64 0) (by kernel_rfl) (by kernel_rfl) ?_
  refine wl_nil ?_
  refine then_at (F := ⟨(pt q :: un :: iN .i64 0 :: pt q :: .bool true :: List.replicate 4 un).toArray, []⟩) (by kernel_rfl) ?_
  refine wp_ret ?_
  repeat first | refine then_ret ?_ | refine block_ret ?_
  exact bodyPost_ret (v := iN .i64 0) (by kernel_rfl) rfl ⟨rfl, h2.old.old⟩
set_option linter.unusedVariables false in
set_option maxRecDepth 100000 in
set_option maxHeartbeats 2000000 in
theorem Free_false {w : World} {q r fr lf : Nat} {v : Value} (hq : Blk w q 61 (dcell r fr lf false v)) :
    Calls Try.prog 31 #[pt q] w fun e w' => e = .returned (iN .i64 fr) ∧ Below w.heap.size w w' := by
  have H0 := HA.start w
  go_enter Try.func31, Try.ntmps31
  refine wp_seq ?_
  refine wl_region ?_
  refine wl_val (iN .i64 0) (by kernel_rfl) (by kernel_rfl) ?_
  refine wl_nil ?_
  refine then_at (F := ⟨(pt q :: un :: iN .i64 0 :: List.replicate 6 un).toArray, []⟩) (by kernel_rfl) ?_
  refine wp_seq ?_
  refine wp_seq ?_
  refine wl_region ?_
  refine wl_val (.pointer (some ⟨q, 0, none⟩)) (by kernel_rfl) (by kernel_rfl) ?_
  refine wl_call (v := .bool false) H0 (by kernel_rfl) enter59 #[.pointer (some ⟨q, 0, none⟩)] (by kernel_rfl) (dark_false (hq.keep H0.old.old)) ?_
  intro w1 h2
  refine wl_nil ?_
  refine then_at (F := ⟨(pt q :: un :: iN .i64 0 :: pt q :: .bool false :: List.replicate 4 un).toArray, []⟩) (by kernel_rfl) ?_
  refine wp_cond_false (by kernel_rfl) ?_
  refine wp_skip ?_
  refine then_at (F := ⟨(pt q :: un :: iN .i64 0 :: pt q :: .bool false :: List.replicate 4 un).toArray, []⟩) (by kernel_rfl) ?_
  refine wp_seq ?_
  refine wl_region ?_
  refine wl_val (.pointer (some ⟨q, 0, none⟩)) (by kernel_rfl) (by kernel_rfl) ?_
  refine wl_val (.pointer (some ⟨q, 0, none⟩)) (by kernel_rfl) (by kernel_rfl) ?_
  refine wl_val (.pointer (some ⟨q, 1, none⟩)) (by kernel_rfl) (by kernel_rfl) ?_
  refine wl_val (iN .i64 fr) (by kernel_rfl) (run_load1 (fun w => Try.isAgg3 w) (by kernel_rfl) (((hq.keep h2.old.old).cell 1).trans rfl)) ?_
  refine wl_val (iN .i64 fr) (by kernel_rfl) (by kernel_rfl) ?_
  refine wl_nil ?_
  refine then_at (F := ⟨(pt q :: un :: iN .i64 fr :: pt q :: .bool false :: pt q :: pt q :: .pointer (some ⟨q, 1, none⟩) :: iN .i64 fr :: List.replicate 0 un).toArray, []⟩) (by kernel_rfl) ?_
  refine wp_ret ?_
  repeat first | refine then_ret ?_ | refine block_ret ?_
  exact bodyPost_ret (v := iN .i64 fr) (by kernel_rfl) rfl ⟨rfl, h2.old.old⟩
set_option linter.unusedVariables false in
set_option maxRecDepth 100000 in
set_option maxHeartbeats 2000000 in
theorem Free_nil (w : World) :
    Calls Try.prog 31 #[.pointer none] w fun e w' => e = .returned (iN .i64 0) ∧ Below w.heap.size w w' := by
  have H0 := HA.start w
  go_enter Try.func31, Try.ntmps31
  refine wp_seq ?_
  refine wl_region ?_
  refine wl_val (iN .i64 0) (by kernel_rfl) (by kernel_rfl) ?_
  refine wl_nil ?_
  refine then_at (F := ⟨(.pointer none :: un :: iN .i64 0 :: List.replicate 6 un).toArray, []⟩) (by kernel_rfl) ?_
  refine wp_seq ?_
  refine wp_seq ?_
  refine wl_region ?_
  refine wl_val (.pointer none) (by kernel_rfl) (by kernel_rfl) ?_
  refine wl_call (v := .bool true) H0 (by kernel_rfl) enter59 #[.pointer none] (by kernel_rfl) (dark_nil w) ?_
  intro w1 h2
  refine wl_nil ?_
  refine then_at (F := ⟨(.pointer none :: un :: iN .i64 0 :: .pointer none :: .bool true :: List.replicate 4 un).toArray, []⟩) (by kernel_rfl) ?_
  refine wp_cond_true (by kernel_rfl) ?_
  refine wp_seq ?_
  refine wl_region ?_
  refine wl_val (iN .i64 0) (by kernel_rfl) (by kernel_rfl) ?_
  refine wl_nil ?_
  refine then_at (F := ⟨(.pointer none :: un :: iN .i64 0 :: .pointer none :: .bool true :: List.replicate 4 un).toArray, []⟩) (by kernel_rfl) ?_
  refine wp_ret ?_
  repeat first | refine then_ret ?_ | refine block_ret ?_
  exact bodyPost_ret (v := iN .i64 0) (by kernel_rfl) rfl ⟨rfl, h2.old.old⟩
def isNm (s : ByteArray) : Bool := decide (s ≠ { data := #[] } ∧ s.size ≤ 64)
set_option linter.unusedVariables false in
set_option maxRecDepth 100000 in
set_option maxHeartbeats 2000000 in
theorem isName_e (s : ByteArray) (hs : s = { data := #[] }) (w : World) :
    Calls Try.prog 34 #[.string s] w fun e w' => e = .returned (.bool false) ∧ Below w.heap.size w w' := by
  have H0 := HA.start w
  go_enter Try.func34, Try.ntmps34
  refine wp_seq ?_
  refine wl_region ?_
  refine wl_val (.bool false) (by kernel_rfl) (by kernel_rfl) ?_
  refine wl_nil ?_
  refine then_at (F := ⟨(.string s :: un :: .bool false :: List.replicate 7 un).toArray, []⟩) (by kernel_rfl) ?_
  refine wp_seq ?_
  refine wl_region ?_
  refine wl_val (.string s) (by kernel_rfl) (by kernel_rfl) ?_
  refine wl_val (.bool false) (by kernel_rfl) (run_nes (s := s) (t := { data := #[] }) (by kernel_rfl) (by kernel_rfl) false (decide_eq_true hs)) ?_
  refine wl_val (.bool false) (by kernel_rfl) (by kernel_rfl) ?_
  refine wl_skip (by kernel_rfl) ?_
  refine wl_skip (by kernel_rfl) ?_
  refine wl_skip (by kernel_rfl) ?_
  refine wl_val (.bool false) (by kernel_rfl) (by kernel_rfl) ?_
  refine wl_val (.bool false) (by kernel_rfl) (by kernel_rfl) ?_
  refine wl_nil ?_
  refine then_at (F := ⟨(.string s :: un :: .bool false :: .string s :: .bool false :: .bool false :: un :: un :: un :: .bool false :: List.replicate 0 un).toArray, []⟩) (by kernel_rfl) ?_
  refine wp_ret ?_
  repeat first | refine then_ret ?_ | refine block_ret ?_
  exact bodyPost_ret (v := .bool false) (by kernel_rfl) rfl ⟨rfl, H0.old.old⟩
set_option linter.unusedVariables false in
set_option maxRecDepth 100000 in
set_option maxHeartbeats 2000000 in
theorem isName_y (s : ByteArray) (hs : ¬ s = { data := #[] }) (hn : s.size ≤ 64) (w : World) :
    Calls Try.prog 34 #[.string s] w fun e w' => e = .returned (.bool true) ∧ Below w.heap.size w w' := by
  have H0 := HA.start w
  go_enter Try.func34, Try.ntmps34
  refine wp_seq ?_
  refine wl_region ?_
  refine wl_val (.bool false) (by kernel_rfl) (by kernel_rfl) ?_
  refine wl_nil ?_
  refine then_at (F := ⟨(.string s :: un :: .bool false :: List.replicate 7 un).toArray, []⟩) (by kernel_rfl) ?_
  refine wp_seq ?_
  refine wl_region ?_
  refine wl_val (.string s) (by kernel_rfl) (by kernel_rfl) ?_
  refine wl_val (.bool true) (by kernel_rfl) (run_nes (s := s) (t := { data := #[] }) (by kernel_rfl) (by kernel_rfl) true (decide_eq_false hs)) ?_
  refine wl_val (.bool true) (by kernel_rfl) (by kernel_rfl) ?_
  refine wl_val (.string s) (by kernel_rfl) (by kernel_rfl) ?_
  refine wl_val (iN .i64 s.size) (by kernel_rfl) (run_len (s := s) (by kernel_rfl)) ?_
  refine wl_val (.bool true) (by kernel_rfl) (run_leq (k := .i64) (a := s.size) (b := 64) (by kernel_rfl) (by kernel_rfl) true (decide_eq_true hn)) ?_
  refine wl_val (.bool true) (by kernel_rfl) (by kernel_rfl) ?_
  refine wl_val (.bool true) (by kernel_rfl) (by kernel_rfl) ?_
  refine wl_nil ?_
  refine then_at (F := ⟨(.string s :: un :: .bool true :: .string s :: .bool true :: .bool true :: .string s :: iN .i64 s.size :: .bool true :: .bool true :: List.replicate 0 un).toArray, []⟩) (by kernel_rfl) ?_
  refine wp_ret ?_
  repeat first | refine then_ret ?_ | refine block_ret ?_
  exact bodyPost_ret (v := .bool true) (by kernel_rfl) rfl ⟨rfl, H0.old.old⟩
set_option linter.unusedVariables false in
set_option maxRecDepth 100000 in
set_option maxHeartbeats 2000000 in
theorem isName_n (s : ByteArray) (hs : ¬ s = { data := #[] }) (hn : ¬ s.size ≤ 64) (w : World) :
    Calls Try.prog 34 #[.string s] w fun e w' => e = .returned (.bool false) ∧ Below w.heap.size w w' := by
  have H0 := HA.start w
  go_enter Try.func34, Try.ntmps34
  refine wp_seq ?_
  refine wl_region ?_
  refine wl_val (.bool false) (by kernel_rfl) (by kernel_rfl) ?_
  refine wl_nil ?_
  refine then_at (F := ⟨(.string s :: un :: .bool false :: List.replicate 7 un).toArray, []⟩) (by kernel_rfl) ?_
  refine wp_seq ?_
  refine wl_region ?_
  refine wl_val (.string s) (by kernel_rfl) (by kernel_rfl) ?_
  refine wl_val (.bool true) (by kernel_rfl) (run_nes (s := s) (t := { data := #[] }) (by kernel_rfl) (by kernel_rfl) true (decide_eq_false hs)) ?_
  refine wl_val (.bool true) (by kernel_rfl) (by kernel_rfl) ?_
  refine wl_val (.string s) (by kernel_rfl) (by kernel_rfl) ?_
  refine wl_val (iN .i64 s.size) (by kernel_rfl) (run_len (s := s) (by kernel_rfl)) ?_
  refine wl_val (.bool false) (by kernel_rfl) (run_leq (k := .i64) (a := s.size) (b := 64) (by kernel_rfl) (by kernel_rfl) false (decide_eq_false hn)) ?_
  refine wl_val (.bool false) (by kernel_rfl) (by kernel_rfl) ?_
  refine wl_val (.bool false) (by kernel_rfl) (by kernel_rfl) ?_
  refine wl_nil ?_
  refine then_at (F := ⟨(.string s :: un :: .bool false :: .string s :: .bool true :: .bool true :: .string s :: iN .i64 s.size :: .bool false :: .bool false :: List.replicate 0 un).toArray, []⟩) (by kernel_rfl) ?_
  refine wp_ret ?_
  repeat first | refine then_ret ?_ | refine block_ret ?_
  exact bodyPost_ret (v := .bool false) (by kernel_rfl) rfl ⟨rfl, H0.old.old⟩
theorem isName_any (s : ByteArray) (w : World) :
    Calls Try.prog 34 #[.string s] w fun e w' => e = .returned (.bool (isNm s)) ∧ Below w.heap.size w w' := by
  by_cases h : s = { data := #[] }
  · rw [show isNm s = false by simp [isNm, h]]; exact isName_e s h w
  · by_cases h2 : s.size ≤ 64
    · rw [show isNm s = true by simp [isNm, h, h2]]; exact isName_y s h h2 w
    · rw [show isNm s = false by simp [isNm, h2]]; exact isName_n s h h2 w
end Go.Proofs.Ytjedhnjjgmbcbaa
