/-
  mayBe, isLong, Make, New.
-/
import Derived.Test.YtihfeoanognonaaT8
namespace Go.Proofs.Ytihfeoanognonaa
open Go.RowKit

theorem run_eqz {ρ : Operand → Value} {x y : Operand} {w : World} {dst : Option Tmp} {T T2 ty : TypeId} {pos : String} {aft : Array Edge} {gd : Option (Nat × Bool)} {P : Program} {k : IntKind} {a : Int} {b : Nat} (hx : ρ x = .int k a) (hy : ρ y = iN k b) (t : Bool) (ht : decide (a = (b : Int)) = t) : (execOp ρ ⟨dst, .binOp .eql T x y T2, ty, pos, aft, gd⟩).run P w = .ok (.value (.bool t)) w := by
  subst ht
  simp only [execOp, hx, hy, iN]
  simp [binOp, go_sem]
  rw [Bool.eq_iff_iff]
  simp
theorem wl_callv {ops : Array Oper} {Q : Exit → Act → World → Prop} {a : Act} {rest : List Oper} {dst : Option Tmp} {ty : TypeId} {pos : String} {aft : Array Edge} {gd : Option (Nat × Bool)} {w : World} {z : Base} {L : BL} {f : FuncId} {x : Operand} {xs : Array Operand} {ats : Array TypeId} {v : Value} (H : HA z L w) (hw : Region.wanted ⟨dst, .call { callee := .value x, args := xs, argTypes := ats }, ty, pos, aft, gd⟩ (yielded ops a.tmps) = true)
    (hr : ∀ args w, (callFunc f args).run Try.prog w = .ok (.enter f args) w) (args : Array Value) (hx : a.eval x = .func (.func f) #[] #[]) (ha : #[] ++ xs.map a.eval ++ #[] = args) (hc : Calls Try.prog f args w fun e w' => e = .returned v ∧ Below w.heap.size w w')
    (h : ∀ w', HA z L w' → WL Try.prog ops Q rest (a.put dst v) w') : WL Try.prog ops Q (⟨dst, .call { callee := .value x, args := xs, argTypes := ats }, ty, pos, aft, gd⟩ :: rest) a w := by
  refine ⟨?_⟩
  unfold wpList
  rw [if_pos hw]
  refine .inl ?_
  unfold Oper.wp
  rw [run_callv hr hx ha]
  refine hc.mono ?_
  rintro e w' ⟨rfl, hb⟩
  exact (h _ (H.keep _ _ hb)).out
abbrev eS : ByteArray := { data := #[] }
set_option linter.unusedVariables false in
set_option maxRecDepth 100000 in
set_option maxHeartbeats 2000000 in
theorem mb3_y  (s : ByteArray) (n : Nat) (w : World) (hs : s = { data := #[] }) (hn : n = 1) :
    Calls Try.prog 39 #[iN .i64 3, .string s, iN .i64 n] w fun e w' => e = .returned (.bool true) ∧ Below w.heap.size w w' := by
  have H0 := HA.start w
  go_enter Try.func39, Try.ntmps39
  refine wp_seq ?_
  -- region 0
  refine wl_region ?_
  refine wl_val (.bool false) (by kernel_rfl) (by kernel_rfl) ?_
  refine wl_nil ?_
  refine then_at (F := ⟨(iN .i64 3 :: .string s :: iN .i64 n :: un :: un :: un :: .bool false :: List.replicate 30 un).toArray, []⟩) (by kernel_rfl) ?_
  refine wp_seq ?_
  refine wp_seq ?_
  -- region 1
  refine wl_region ?_
  refine wl_val (iN .i64 3) (by kernel_rfl) (by kernel_rfl) ?_
  refine wl_nil ?_
  refine then_at (F := ⟨(iN .i64 3 :: .string s :: iN .i64 n :: un :: un :: un :: .bool false :: iN .i64 3 :: List.replicate 29 un).toArray, []⟩) (by kernel_rfl) ?_
  refine wp_block ?_
  refine wp_seq ?_
  -- region 2
  refine wl_region ?_
  refine wl_val (.bool true) (by kernel_rfl) (run_eqi (k := .i64) (a := 3) (b := 3) (by kernel_rfl) (by kernel_rfl) true (by decide)) ?_
  refine wl_val (.bool true) (by kernel_rfl) (by kernel_rfl) ?_
  refine wl_nil ?_
  refine then_at (F := ⟨(iN .i64 3 :: .string s :: iN .i64 n :: un :: un :: un :: .bool false :: iN .i64 3 :: .bool true :: .bool true :: List.replicate 27 un).toArray, []⟩) (by kernel_rfl) ?_
  refine wp_cond_true (by kernel_rfl) ?_
  refine wp_seq ?_
  -- region 3
  refine wl_region ?_
  refine wl_val (.string s) (by kernel_rfl) (by kernel_rfl) ?_
  refine wl_val (.bool true) (by kernel_rfl) (run_eqs (s := s) (t := { data := #[] }) (by kernel_rfl) (by kernel_rfl) true (decide_eq_true hs)) ?_
  refine wl_val (.bool true) (by kernel_rfl) (by kernel_rfl) ?_
  refine wl_val (iN .i64 n) (by kernel_rfl) (by kernel_rfl) ?_
  refine wl_val (.bool true) (by kernel_rfl) (run_eqi (k := .i64) (a := n) (b := 1) (by kernel_rfl) (by kernel_rfl) true (decide_eq_true hn)) ?_
  refine wl_val (.bool true) (by kernel_rfl) (by kernel_rfl) ?_
  refine wl_val (.bool true) (by kernel_rfl) (by kernel_rfl) ?_
  refine wl_nil ?_
  refine then_at (F := ⟨(iN .i64 3 :: .string s :: iN .i64 n :: un :: un :: un :: .bool true :: iN .i64 3 :: .bool true :: .bool true :: .string s :: .bool true :: .bool true :: iN .i64 n :: .bool true :: .bool true :: List.replicate 21 un).toArray, []⟩) (by kernel_rfl) ?_
  refine wp_ret ?_
  repeat first | refine then_ret ?_ | refine block_ret ?_
  exact bodyPost_ret (v := .bool true) (by kernel_rfl) rfl ⟨rfl, H0.old.old⟩
set_option linter.unusedVariables false in
set_option maxRecDepth 100000 in
set_option maxHeartbeats 2000000 in
theorem mb3_n  (s : ByteArray) (n : Nat) (w : World) (hs : s = { data := #[] }) (hn : ¬ n = 1) :
    Calls Try.prog 39 #[iN .i64 3, .string s, iN .i64 n] w fun e w' => e = .returned (.bool false) ∧ Below w.heap.size w w' := by
  have H0 := HA.start w
  go_enter Try.func39, Try.ntmps39
  refine wp_seq ?_
  -- region 0
  refine wl_region ?_
  refine wl_val (.bool false) (by kernel_rfl) (by kernel_rfl) ?_
  refine wl_nil ?_
  refine then_at (F := ⟨(iN .i64 3 :: .string s :: iN .i64 n :: un :: un :: un :: .bool false :: List.replicate 30 un).toArray, []⟩) (by kernel_rfl) ?_
  refine wp_seq ?_
  refine wp_seq ?_
  -- region 1
  refine wl_region ?_
  refine wl_val (iN .i64 3) (by kernel_rfl) (by kernel_rfl) ?_
  refine wl_nil ?_
  refine then_at (F := ⟨(iN .i64 3 :: .string s :: iN .i64 n :: un :: un :: un :: .bool false :: iN .i64 3 :: List.replicate 29 un).toArray, []⟩) (by kernel_rfl) ?_
  refine wp_block ?_
  refine wp_seq ?_
  -- region 2
  refine wl_region ?_
  refine wl_val (.bool true) (by kernel_rfl) (run_eqi (k := .i64) (a := 3) (b := 3) (by kernel_rfl) (by kernel_rfl) true (by decide)) ?_
  refine wl_val (.bool true) (by kernel_rfl) (by kernel_rfl) ?_
  refine wl_nil ?_
  refine then_at (F := ⟨(iN .i64 3 :: .string s :: iN .i64 n :: un :: un :: un :: .bool false :: iN .i64 3 :: .bool true :: .bool true :: List.replicate 27 un).toArray, []⟩) (by kernel_rfl) ?_
  refine wp_cond_true (by kernel_rfl) ?_
  refine wp_seq ?_
  -- region 3
  refine wl_region ?_
  refine wl_val (.string s) (by kernel_rfl) (by kernel_rfl) ?_
  refine wl_val (.bool true) (by kernel_rfl) (run_eqs (s := s) (t := { data := #[] }) (by kernel_rfl) (by kernel_rfl) true (decide_eq_true hs)) ?_
  refine wl_val (.bool true) (by kernel_rfl) (by kernel_rfl) ?_
  refine wl_val (iN .i64 n) (by kernel_rfl) (by kernel_rfl) ?_
  refine wl_val (.bool false) (by kernel_rfl) (run_eqi (k := .i64) (a := n) (b := 1) (by kernel_rfl) (by kernel_rfl) false (decide_eq_false hn)) ?_
  refine wl_val (.bool false) (by kernel_rfl) (by kernel_rfl) ?_
  refine wl_val (.bool false) (by kernel_rfl) (by kernel_rfl) ?_
  refine wl_nil ?_
  refine then_at (F := ⟨(iN .i64 3 :: .string s :: iN .i64 n :: un :: un :: un :: .bool false :: iN .i64 3 :: .bool true :: .bool true :: .string s :: .bool true :: .bool true :: iN .i64 n :: .bool false :: .bool false :: List.replicate 21 un).toArray, []⟩) (by kernel_rfl) ?_
  refine wp_ret ?_
  repeat first | refine then_ret ?_ | refine block_ret ?_
  exact bodyPost_ret (v := .bool false) (by kernel_rfl) rfl ⟨rfl, H0.old.old⟩
set_option linter.unusedVariables false in
set_option maxRecDepth 100000 in
set_option maxHeartbeats 2000000 in
theorem mb3_s  (s : ByteArray) (n : Nat) (w : World) (hs : s ≠ { data := #[] }) :
    Calls Try.prog 39 #[iN .i64 3, .string s, iN .i64 n] w fun e w' => e = .returned (.bool false) ∧ Below w.heap.size w w' := by
  have H0 := HA.start w
  go_enter Try.func39, Try.ntmps39
  refine wp_seq ?_
  -- region 0
  refine wl_region ?_
  refine wl_val (.bool false) (by kernel_rfl) (by kernel_rfl) ?_
  refine wl_nil ?_
  refine then_at (F := ⟨(iN .i64 3 :: .string s :: iN .i64 n :: un :: un :: un :: .bool false :: List.replicate 30 un).toArray, []⟩) (by kernel_rfl) ?_
  refine wp_seq ?_
  refine wp_seq ?_
  -- region 1
  refine wl_region ?_
  refine wl_val (iN .i64 3) (by kernel_rfl) (by kernel_rfl) ?_
  refine wl_nil ?_
  refine then_at (F := ⟨(iN .i64 3 :: .string s :: iN .i64 n :: un :: un :: un :: .bool false :: iN .i64 3 :: List.replicate 29 un).toArray, []⟩) (by kernel_rfl) ?_
  refine wp_block ?_
  refine wp_seq ?_
  -- region 2
  refine wl_region ?_
  refine wl_val (.bool true) (by kernel_rfl) (run_eqi (k := .i64) (a := 3) (b := 3) (by kernel_rfl) (by kernel_rfl) true (by decide)) ?_
  refine wl_val (.bool true) (by kernel_rfl) (by kernel_rfl) ?_
  refine wl_nil ?_
  refine then_at (F := ⟨(iN .i64 3 :: .string s :: iN .i64 n :: un :: un :: un :: .bool false :: iN .i64 3 :: .bool true :: .bool true :: List.replicate 27 un).toArray, []⟩) (by kernel_rfl) ?_
  refine wp_cond_true (by kernel_rfl) ?_
  refine wp_seq ?_
  -- region 3
  refine wl_region ?_
  refine wl_val (.string s) (by kernel_rfl) (by kernel_rfl) ?_
  refine wl_val (.bool false) (by kernel_rfl) (run_eqs (s := s) (t := { data := #[] }) (by kernel_rfl) (by kernel_rfl) false (decide_eq_false hs)) ?_
  refine wl_val (.bool false) (by kernel_rfl) (by kernel_rfl) ?_
  refine wl_skip (by kernel_rfl) ?_
  refine wl_skip (by kernel_rfl) ?_
  refine wl_val (.bool false) (by kernel_rfl) (by kernel_rfl) ?_
  refine wl_val (.bool false) (by kernel_rfl) (by kernel_rfl) ?_
  refine wl_nil ?_
  refine then_at (F := ⟨(iN .i64 3 :: .string s :: iN .i64 n :: un :: un :: un :: .bool false :: iN .i64 3 :: .bool true :: .bool true :: .string s :: .bool false :: .bool false :: un :: un :: .bool false :: List.replicate 21 un).toArray, []⟩) (by kernel_rfl) ?_
  refine wp_ret ?_
  repeat first | refine then_ret ?_ | refine block_ret ?_
  exact bodyPost_ret (v := .bool false) (by kernel_rfl) rfl ⟨rfl, H0.old.old⟩
set_option linter.unusedVariables false in
set_option maxRecDepth 100000 in
set_option maxHeartbeats 2000000 in
theorem mb4_y  (s : ByteArray) (n : Nat) (w : World) (hs : s = { data := #[] }) (hn : n = 2) :
    Calls Try.prog 39 #[iN .i64 4, .string s, iN .i64 n] w fun e w' => e = .returned (.bool true) ∧ Below w.heap.size w w' := by
  have H0 := HA.start w
  go_enter Try.func39, Try.ntmps39
  refine wp_seq ?_
  -- region 0
  refine wl_region ?_
  refine wl_val (.bool false) (by kernel_rfl) (by kernel_rfl) ?_
  refine wl_nil ?_
  refine then_at (F := ⟨(iN .i64 4 :: .string s :: iN .i64 n :: un :: un :: un :: .bool false :: List.replicate 30 un).toArray, []⟩) (by kernel_rfl) ?_
  refine wp_seq ?_
  refine wp_seq ?_
  -- region 1
  refine wl_region ?_
  refine wl_val (iN .i64 4) (by kernel_rfl) (by kernel_rfl) ?_
  refine wl_nil ?_
  refine then_at (F := ⟨(iN .i64 4 :: .string s :: iN .i64 n :: un :: un :: un :: .bool false :: iN .i64 4 :: List.replicate 29 un).toArray, []⟩) (by kernel_rfl) ?_
  refine wp_block ?_
  refine wp_seq ?_
  -- region 2
  refine wl_region ?_
  refine wl_val (.bool false) (by kernel_rfl) (run_eqi (k := .i64) (a := 4) (b := 3) (by kernel_rfl) (by kernel_rfl) false (by decide)) ?_
  refine wl_val (.bool false) (by kernel_rfl) (by kernel_rfl) ?_
  refine wl_nil ?_
  refine then_at (F := ⟨(iN .i64 4 :: .string s :: iN .i64 n :: un :: un :: un :: .bool false :: iN .i64 4 :: .bool false :: .bool false :: List.replicate 27 un).toArray, []⟩) (by kernel_rfl) ?_
  refine wp_cond_false (by kernel_rfl) ?_
  refine wp_seq ?_
  refine wp_seq ?_
  -- region 4
  refine wl_region ?_
  refine wl_val (.bool true) (by kernel_rfl) (run_eqi (k := .i64) (a := 4) (b := 4) (by kernel_rfl) (by kernel_rfl) true (by decide)) ?_
  refine wl_val (.bool true) (by kernel_rfl) (by kernel_rfl) ?_
  refine wl_nil ?_
  refine then_at (F := ⟨(iN .i64 4 :: .string s :: iN .i64 n :: un :: un :: un :: .bool false :: iN .i64 4 :: .bool false :: .bool false :: un :: un :: un :: un :: un :: un :: .bool true :: .bool true :: List.replicate 19 un).toArray, []⟩) (by kernel_rfl) ?_
  refine wp_cond_true (by kernel_rfl) ?_
  refine wp_skip ?_
  refine then_at (F := ⟨(iN .i64 4 :: .string s :: iN .i64 n :: un :: un :: un :: .bool false :: iN .i64 4 :: .bool false :: .bool false :: un :: un :: un :: un :: un :: un :: .bool true :: .bool true :: List.replicate 19 un).toArray, []⟩) (by kernel_rfl) ?_
  refine wp_cond_true (by kernel_rfl) ?_
  refine wp_seq ?_
  -- region 6
  refine wl_region ?_
  refine wl_val (.string s) (by kernel_rfl) (by kernel_rfl) ?_
  refine wl_val (.bool true) (by kernel_rfl) (run_eqs (s := s) (t := { data := #[] }) (by kernel_rfl) (by kernel_rfl) true (decide_eq_true hs)) ?_
  refine wl_val (.bool true) (by kernel_rfl) (by kernel_rfl) ?_
  refine wl_val (iN .i64 n) (by kernel_rfl) (by kernel_rfl) ?_
  refine wl_val (.bool true) (by kernel_rfl) (run_eqi (k := .i64) (a := n) (b := 2) (by kernel_rfl) (by kernel_rfl) true (decide_eq_true hn)) ?_
  refine wl_val (.bool true) (by kernel_rfl) (by kernel_rfl) ?_
  refine wl_val (.bool true) (by kernel_rfl) (by kernel_rfl) ?_
  refine wl_nil ?_
  refine then_at (F := ⟨(iN .i64 4 :: .string s :: iN .i64 n :: un :: un :: un :: .bool true :: iN .i64 4 :: .bool false :: .bool false :: un :: un :: un :: un :: un :: un :: .bool true :: .bool true :: un :: .string s :: .bool true :: .bool true :: iN .i64 n :: .bool true :: .bool true :: List.replicate 12 un).toArray, []⟩) (by kernel_rfl) ?_
  refine wp_ret ?_
  repeat first | refine then_ret ?_ | refine block_ret ?_
  exact bodyPost_ret (v := .bool true) (by kernel_rfl) rfl ⟨rfl, H0.old.old⟩
set_option linter.unusedVariables false in
set_option maxRecDepth 100000 in
set_option maxHeartbeats 2000000 in
theorem mb4_n  (s : ByteArray) (n : Nat) (w : World) (hs : s = { data := #[] }) (hn : ¬ n = 2) :
    Calls Try.prog 39 #[iN .i64 4, .string s, iN .i64 n] w fun e w' => e = .returned (.bool false) ∧ Below w.heap.size w w' := by
  have H0 := HA.start w
  go_enter Try.func39, Try.ntmps39
  refine wp_seq ?_
  -- region 0
  refine wl_region ?_
  refine wl_val (.bool false) (by kernel_rfl) (by kernel_rfl) ?_
  refine wl_nil ?_
  refine then_at (F := ⟨(iN .i64 4 :: .string s :: iN .i64 n :: un :: un :: un :: .bool false :: List.replicate 30 un).toArray, []⟩) (by kernel_rfl) ?_
  refine wp_seq ?_
  refine wp_seq ?_
  -- region 1
  refine wl_region ?_
  refine wl_val (iN .i64 4) (by kernel_rfl) (by kernel_rfl) ?_
  refine wl_nil ?_
  refine then_at (F := ⟨(iN .i64 4 :: .string s :: iN .i64 n :: un :: un :: un :: .bool false :: iN .i64 4 :: List.replicate 29 un).toArray, []⟩) (by kernel_rfl) ?_
  refine wp_block ?_
  refine wp_seq ?_
  -- region 2
  refine wl_region ?_
  refine wl_val (.bool false) (by kernel_rfl) (run_eqi (k := .i64) (a := 4) (b := 3) (by kernel_rfl) (by kernel_rfl) false (by decide)) ?_
  refine wl_val (.bool false) (by kernel_rfl) (by kernel_rfl) ?_
  refine wl_nil ?_
  refine then_at (F := ⟨(iN .i64 4 :: .string s :: iN .i64 n :: un :: un :: un :: .bool false :: iN .i64 4 :: .bool false :: .bool false :: List.replicate 27 un).toArray, []⟩) (by kernel_rfl) ?_
  refine wp_cond_false (by kernel_rfl) ?_
  refine wp_seq ?_
  refine wp_seq ?_
  -- region 4
  refine wl_region ?_
  refine wl_val (.bool true) (by kernel_rfl) (run_eqi (k := .i64) (a := 4) (b := 4) (by kernel_rfl) (by kernel_rfl) true (by decide)) ?_
  refine wl_val (.bool true) (by kernel_rfl) (by kernel_rfl) ?_
  refine wl_nil ?_
  refine then_at (F := ⟨(iN .i64 4 :: .string s :: iN .i64 n :: un :: un :: un :: .bool false :: iN .i64 4 :: .bool false :: .bool false :: un :: un :: un :: un :: un :: un :: .bool true :: .bool true :: List.replicate 19 un).toArray, []⟩) (by kernel_rfl) ?_
  refine wp_cond_true (by kernel_rfl) ?_
  refine wp_skip ?_
  refine then_at (F := ⟨(iN .i64 4 :: .string s :: iN .i64 n :: un :: un :: un :: .bool false :: iN .i64 4 :: .bool false :: .bool false :: un :: un :: un :: un :: un :: un :: .bool true :: .bool true :: List.replicate 19 un).toArray, []⟩) (by kernel_rfl) ?_
  refine wp_cond_true (by kernel_rfl) ?_
  refine wp_seq ?_
  -- region 6
  refine wl_region ?_
  refine wl_val (.string s) (by kernel_rfl) (by kernel_rfl) ?_
  refine wl_val (.bool true) (by kernel_rfl) (run_eqs (s := s) (t := { data := #[] }) (by kernel_rfl) (by kernel_rfl) true (decide_eq_true hs)) ?_
  refine wl_val (.bool true) (by kernel_rfl) (by kernel_rfl) ?_
  refine wl_val (iN .i64 n) (by kernel_rfl) (by kernel_rfl) ?_
  refine wl_val (.bool false) (by kernel_rfl) (run_eqi (k := .i64) (a := n) (b := 2) (by kernel_rfl) (by kernel_rfl) false (decide_eq_false hn)) ?_
  refine wl_val (.bool false) (by kernel_rfl) (by kernel_rfl) ?_
  refine wl_val (.bool false) (by kernel_rfl) (by kernel_rfl) ?_
  refine wl_nil ?_
  refine then_at (F := ⟨(iN .i64 4 :: .string s :: iN .i64 n :: un :: un :: un :: .bool false :: iN .i64 4 :: .bool false :: .bool false :: un :: un :: un :: un :: un :: un :: .bool true :: .bool true :: un :: .string s :: .bool true :: .bool true :: iN .i64 n :: .bool false :: .bool false :: List.replicate 12 un).toArray, []⟩) (by kernel_rfl) ?_
  refine wp_ret ?_
  repeat first | refine then_ret ?_ | refine block_ret ?_
  exact bodyPost_ret (v := .bool false) (by kernel_rfl) rfl ⟨rfl, H0.old.old⟩
set_option linter.unusedVariables false in
set_option maxRecDepth 100000 in
set_option maxHeartbeats 2000000 in
theorem mb4_s  (s : ByteArray) (n : Nat) (w : World) (hs : s ≠ { data := #[] }) :
    Calls Try.prog 39 #[iN .i64 4, .string s, iN .i64 n] w fun e w' => e = .returned (.bool false) ∧ Below w.heap.size w w' := by
  have H0 := HA.start w
  go_enter Try.func39, Try.ntmps39
  refine wp_seq ?_
  -- region 0
  refine wl_region ?_
  refine wl_val (.bool false) (by kernel_rfl) (by kernel_rfl) ?_
  refine wl_nil ?_
  refine then_at (F := ⟨(iN .i64 4 :: .string s :: iN .i64 n :: un :: un :: un :: .bool false :: List.replicate 30 un).toArray, []⟩) (by kernel_rfl) ?_
  refine wp_seq ?_
  refine wp_seq ?_
  -- region 1
  refine wl_region ?_
  refine wl_val (iN .i64 4) (by kernel_rfl) (by kernel_rfl) ?_
  refine wl_nil ?_
  refine then_at (F := ⟨(iN .i64 4 :: .string s :: iN .i64 n :: un :: un :: un :: .bool false :: iN .i64 4 :: List.replicate 29 un).toArray, []⟩) (by kernel_rfl) ?_
  refine wp_block ?_
  refine wp_seq ?_
  -- region 2
  refine wl_region ?_
  refine wl_val (.bool false) (by kernel_rfl) (run_eqi (k := .i64) (a := 4) (b := 3) (by kernel_rfl) (by kernel_rfl) false (by decide)) ?_
  refine wl_val (.bool false) (by kernel_rfl) (by kernel_rfl) ?_
  refine wl_nil ?_
  refine then_at (F := ⟨(iN .i64 4 :: .string s :: iN .i64 n :: un :: un :: un :: .bool false :: iN .i64 4 :: .bool false :: .bool false :: List.replicate 27 un).toArray, []⟩) (by kernel_rfl) ?_
  refine wp_cond_false (by kernel_rfl) ?_
  refine wp_seq ?_
  refine wp_seq ?_
  -- region 4
  refine wl_region ?_
  refine wl_val (.bool true) (by kernel_rfl) (run_eqi (k := .i64) (a := 4) (b := 4) (by kernel_rfl) (by kernel_rfl) true (by decide)) ?_
  refine wl_val (.bool true) (by kernel_rfl) (by kernel_rfl) ?_
  refine wl_nil ?_
  refine then_at (F := ⟨(iN .i64 4 :: .string s :: iN .i64 n :: un :: un :: un :: .bool false :: iN .i64 4 :: .bool false :: .bool false :: un :: un :: un :: un :: un :: un :: .bool true :: .bool true :: List.replicate 19 un).toArray, []⟩) (by kernel_rfl) ?_
  refine wp_cond_true (by kernel_rfl) ?_
  refine wp_skip ?_
  refine then_at (F := ⟨(iN .i64 4 :: .string s :: iN .i64 n :: un :: un :: un :: .bool false :: iN .i64 4 :: .bool false :: .bool false :: un :: un :: un :: un :: un :: un :: .bool true :: .bool true :: List.replicate 19 un).toArray, []⟩) (by kernel_rfl) ?_
  refine wp_cond_true (by kernel_rfl) ?_
  refine wp_seq ?_
  -- region 6
  refine wl_region ?_
  refine wl_val (.string s) (by kernel_rfl) (by kernel_rfl) ?_
  refine wl_val (.bool false) (by kernel_rfl) (run_eqs (s := s) (t := { data := #[] }) (by kernel_rfl) (by kernel_rfl) false (decide_eq_false hs)) ?_
  refine wl_val (.bool false) (by kernel_rfl) (by kernel_rfl) ?_
  refine wl_skip (by kernel_rfl) ?_
  refine wl_skip (by kernel_rfl) ?_
  refine wl_val (.bool false) (by kernel_rfl) (by kernel_rfl) ?_
  refine wl_val (.bool false) (by kernel_rfl) (by kernel_rfl) ?_
  refine wl_nil ?_
  refine then_at (F := ⟨(iN .i64 4 :: .string s :: iN .i64 n :: un :: un :: un :: .bool false :: iN .i64 4 :: .bool false :: .bool false :: un :: un :: un :: un :: un :: un :: .bool true :: .bool true :: un :: .string s :: .bool false :: .bool false :: un :: un :: .bool false :: List.replicate 12 un).toArray, []⟩) (by kernel_rfl) ?_
  refine wp_ret ?_
  repeat first | refine then_ret ?_ | refine block_ret ?_
  exact bodyPost_ret (v := .bool false) (by kernel_rfl) rfl ⟨rfl, H0.old.old⟩
set_option linter.unusedVariables false in
set_option maxRecDepth 100000 in
set_option maxHeartbeats 2000000 in
theorem mb7_y  (s : ByteArray) (n : Nat) (w : World) (hs : s = { data := #[] }) (hn : n = 2) :
    Calls Try.prog 39 #[iN .i64 7, .string s, iN .i64 n] w fun e w' => e = .returned (.bool true) ∧ Below w.heap.size w w' := by
  have H0 := HA.start w
  go_enter Try.func39, Try.ntmps39
  refine wp_seq ?_
  -- region 0
  refine wl_region ?_
  refine wl_val (.bool false) (by kernel_rfl) (by kernel_rfl) ?_
  refine wl_nil ?_
  refine then_at (F := ⟨(iN .i64 7 :: .string s :: iN .i64 n :: un :: un :: un :: .bool false :: List.replicate 30 un).toArray, []⟩) (by kernel_rfl) ?_
  refine wp_seq ?_
  refine wp_seq ?_
  -- region 1
  refine wl_region ?_
  refine wl_val (iN .i64 7) (by kernel_rfl) (by kernel_rfl) ?_
  refine wl_nil ?_
  refine then_at (F := ⟨(iN .i64 7 :: .string s :: iN .i64 n :: un :: un :: un :: .bool false :: iN .i64 7 :: List.replicate 29 un).toArray, []⟩) (by kernel_rfl) ?_
  refine wp_block ?_
  refine wp_seq ?_
  -- region 2
  refine wl_region ?_
  refine wl_val (.bool false) (by kernel_rfl) (run_eqi (k := .i64) (a := 7) (b := 3) (by kernel_rfl) (by kernel_rfl) false (by decide)) ?_
  refine wl_val (.bool false) (by kernel_rfl) (by kernel_rfl) ?_
  refine wl_nil ?_
  refine then_at (F := ⟨(iN .i64 7 :: .string s :: iN .i64 n :: un :: un :: un :: .bool false :: iN .i64 7 :: .bool false :: .bool false :: List.replicate 27 un).toArray, []⟩) (by kernel_rfl) ?_
  refine wp_cond_false (by kernel_rfl) ?_
  refine wp_seq ?_
  refine wp_seq ?_
  -- region 4
  refine wl_region ?_
  refine wl_val (.bool false) (by kernel_rfl) (run_eqi (k := .i64) (a := 7) (b := 4) (by kernel_rfl) (by kernel_rfl) false (by decide)) ?_
  refine wl_val (.bool false) (by kernel_rfl) (by kernel_rfl) ?_
  refine wl_nil ?_
  refine then_at (F := ⟨(iN .i64 7 :: .string s :: iN .i64 n :: un :: un :: un :: .bool false :: iN .i64 7 :: .bool false :: .bool false :: un :: un :: un :: un :: un :: un :: .bool false :: .bool false :: List.replicate 19 un).toArray, []⟩) (by kernel_rfl) ?_
  refine wp_cond_false (by kernel_rfl) ?_
  -- region 5
  refine wl_region ?_
  refine wl_val (.bool true) (by kernel_rfl) (run_eqi (k := .i64) (a := 7) (b := 7) (by kernel_rfl) (by kernel_rfl) true (by decide)) ?_
  refine wl_val (.bool true) (by kernel_rfl) (by kernel_rfl) ?_
  refine wl_nil ?_
  refine then_at (F := ⟨(iN .i64 7 :: .string s :: iN .i64 n :: un :: un :: un :: .bool false :: iN .i64 7 :: .bool false :: .bool false :: un :: un :: un :: un :: un :: un :: .bool true :: .bool false :: .bool true :: List.replicate 18 un).toArray, []⟩) (by kernel_rfl) ?_
  refine wp_cond_true (by kernel_rfl) ?_
  refine wp_seq ?_
  -- region 6
  refine wl_region ?_
  refine wl_val (.string s) (by kernel_rfl) (by kernel_rfl) ?_
  refine wl_val (.bool true) (by kernel_rfl) (run_eqs (s := s) (t := { data := #[] }) (by kernel_rfl) (by kernel_rfl) true (decide_eq_true hs)) ?_
  refine wl_val (.bool true) (by kernel_rfl) (by kernel_rfl) ?_
  refine wl_val (iN .i64 n) (by kernel_rfl) (by kernel_rfl) ?_
  refine wl_val (.bool true) (by kernel_rfl) (run_eqi (k := .i64) (a := n) (b := 2) (by kernel_rfl) (by kernel_rfl) true (decide_eq_true hn)) ?_
  refine wl_val (.bool true) (by kernel_rfl) (by kernel_rfl) ?_
  refine wl_val (.bool true) (by kernel_rfl) (by kernel_rfl) ?_
  refine wl_nil ?_
  refine then_at (F := ⟨(iN .i64 7 :: .string s :: iN .i64 n :: un :: un :: un :: .bool true :: iN .i64 7 :: .bool false :: .bool false :: un :: un :: un :: un :: un :: un :: .bool true :: .bool false :: .bool true :: .string s :: .bool true :: .bool true :: iN .i64 n :: .bool true :: .bool true :: List.replicate 12 un).toArray, []⟩) (by kernel_rfl) ?_
  refine wp_ret ?_
  repeat first | refine then_ret ?_ | refine block_ret ?_
  exact bodyPost_ret (v := .bool true) (by kernel_rfl) rfl ⟨rfl, H0.old.old⟩
set_option linter.unusedVariables false in
set_option maxRecDepth 100000 in
set_option maxHeartbeats 2000000 in
theorem mb7_n  (s : ByteArray) (n : Nat) (w : World) (hs : s = { data := #[] }) (hn : ¬ n = 2) :
    Calls Try.prog 39 #[iN .i64 7, .string s, iN .i64 n] w fun e w' => e = .returned (.bool false) ∧ Below w.heap.size w w' := by
  have H0 := HA.start w
  go_enter Try.func39, Try.ntmps39
  refine wp_seq ?_
  -- region 0
  refine wl_region ?_
  refine wl_val (.bool false) (by kernel_rfl) (by kernel_rfl) ?_
  refine wl_nil ?_
  refine then_at (F := ⟨(iN .i64 7 :: .string s :: iN .i64 n :: un :: un :: un :: .bool false :: List.replicate 30 un).toArray, []⟩) (by kernel_rfl) ?_
  refine wp_seq ?_
  refine wp_seq ?_
  -- region 1
  refine wl_region ?_
  refine wl_val (iN .i64 7) (by kernel_rfl) (by kernel_rfl) ?_
  refine wl_nil ?_
  refine then_at (F := ⟨(iN .i64 7 :: .string s :: iN .i64 n :: un :: un :: un :: .bool false :: iN .i64 7 :: List.replicate 29 un).toArray, []⟩) (by kernel_rfl) ?_
  refine wp_block ?_
  refine wp_seq ?_
  -- region 2
  refine wl_region ?_
  refine wl_val (.bool false) (by kernel_rfl) (run_eqi (k := .i64) (a := 7) (b := 3) (by kernel_rfl) (by kernel_rfl) false (by decide)) ?_
  refine wl_val (.bool false) (by kernel_rfl) (by kernel_rfl) ?_
  refine wl_nil ?_
  refine then_at (F := ⟨(iN .i64 7 :: .string s :: iN .i64 n :: un :: un :: un :: .bool false :: iN .i64 7 :: .bool false :: .bool false :: List.replicate 27 un).toArray, []⟩) (by kernel_rfl) ?_
  refine wp_cond_false (by kernel_rfl) ?_
  refine wp_seq ?_
  refine wp_seq ?_
  -- region 4
  refine wl_region ?_
  refine wl_val (.bool false) (by kernel_rfl) (run_eqi (k := .i64) (a := 7) (b := 4) (by kernel_rfl) (by kernel_rfl) false (by decide)) ?_
  refine wl_val (.bool false) (by kernel_rfl) (by kernel_rfl) ?_
  refine wl_nil ?_
  refine then_at (F := ⟨(iN .i64 7 :: .string s :: iN .i64 n :: un :: un :: un :: .bool false :: iN .i64 7 :: .bool false :: .bool false :: un :: un :: un :: un :: un :: un :: .bool false :: .bool false :: List.replicate 19 un).toArray, []⟩) (by kernel_rfl) ?_
  refine wp_cond_false (by kernel_rfl) ?_
  -- region 5
  refine wl_region ?_
  refine wl_val (.bool true) (by kernel_rfl) (run_eqi (k := .i64) (a := 7) (b := 7) (by kernel_rfl) (by kernel_rfl) true (by decide)) ?_
  refine wl_val (.bool true) (by kernel_rfl) (by kernel_rfl) ?_
  refine wl_nil ?_
  refine then_at (F := ⟨(iN .i64 7 :: .string s :: iN .i64 n :: un :: un :: un :: .bool false :: iN .i64 7 :: .bool false :: .bool false :: un :: un :: un :: un :: un :: un :: .bool true :: .bool false :: .bool true :: List.replicate 18 un).toArray, []⟩) (by kernel_rfl) ?_
  refine wp_cond_true (by kernel_rfl) ?_
  refine wp_seq ?_
  -- region 6
  refine wl_region ?_
  refine wl_val (.string s) (by kernel_rfl) (by kernel_rfl) ?_
  refine wl_val (.bool true) (by kernel_rfl) (run_eqs (s := s) (t := { data := #[] }) (by kernel_rfl) (by kernel_rfl) true (decide_eq_true hs)) ?_
  refine wl_val (.bool true) (by kernel_rfl) (by kernel_rfl) ?_
  refine wl_val (iN .i64 n) (by kernel_rfl) (by kernel_rfl) ?_
  refine wl_val (.bool false) (by kernel_rfl) (run_eqi (k := .i64) (a := n) (b := 2) (by kernel_rfl) (by kernel_rfl) false (decide_eq_false hn)) ?_
  refine wl_val (.bool false) (by kernel_rfl) (by kernel_rfl) ?_
  refine wl_val (.bool false) (by kernel_rfl) (by kernel_rfl) ?_
  refine wl_nil ?_
  refine then_at (F := ⟨(iN .i64 7 :: .string s :: iN .i64 n :: un :: un :: un :: .bool false :: iN .i64 7 :: .bool false :: .bool false :: un :: un :: un :: un :: un :: un :: .bool true :: .bool false :: .bool true :: .string s :: .bool true :: .bool true :: iN .i64 n :: .bool false :: .bool false :: List.replicate 12 un).toArray, []⟩) (by kernel_rfl) ?_
  refine wp_ret ?_
  repeat first | refine then_ret ?_ | refine block_ret ?_
  exact bodyPost_ret (v := .bool false) (by kernel_rfl) rfl ⟨rfl, H0.old.old⟩
set_option linter.unusedVariables false in
set_option maxRecDepth 100000 in
set_option maxHeartbeats 2000000 in
theorem mb7_s  (s : ByteArray) (n : Nat) (w : World) (hs : s ≠ { data := #[] }) :
    Calls Try.prog 39 #[iN .i64 7, .string s, iN .i64 n] w fun e w' => e = .returned (.bool false) ∧ Below w.heap.size w w' := by
  have H0 := HA.start w
  go_enter Try.func39, Try.ntmps39
  refine wp_seq ?_
  -- region 0
  refine wl_region ?_
  refine wl_val (.bool false) (by kernel_rfl) (by kernel_rfl) ?_
  refine wl_nil ?_
  refine then_at (F := ⟨(iN .i64 7 :: .string s :: iN .i64 n :: un :: un :: un :: .bool false :: List.replicate 30 un).toArray, []⟩) (by kernel_rfl) ?_
  refine wp_seq ?_
  refine wp_seq ?_
  -- region 1
  refine wl_region ?_
  refine wl_val (iN .i64 7) (by kernel_rfl) (by kernel_rfl) ?_
  refine wl_nil ?_
  refine then_at (F := ⟨(iN .i64 7 :: .string s :: iN .i64 n :: un :: un :: un :: .bool false :: iN .i64 7 :: List.replicate 29 un).toArray, []⟩) (by kernel_rfl) ?_
  refine wp_block ?_
  refine wp_seq ?_
  -- region 2
  refine wl_region ?_
  refine wl_val (.bool false) (by kernel_rfl) (run_eqi (k := .i64) (a := 7) (b := 3) (by kernel_rfl) (by kernel_rfl) false (by decide)) ?_
  refine wl_val (.bool false) (by kernel_rfl) (by kernel_rfl) ?_
  refine wl_nil ?_
  refine then_at (F := ⟨(iN .i64 7 :: .string s :: iN .i64 n :: un :: un :: un :: .bool false :: iN .i64 7 :: .bool false :: .bool false :: List.replicate 27 un).toArray, []⟩) (by kernel_rfl) ?_
  refine wp_cond_false (by kernel_rfl) ?_
  refine wp_seq ?_
  refine wp_seq ?_
  -- region 4
  refine wl_region ?_
  refine wl_val (.bool false) (by kernel_rfl) (run_eqi (k := .i64) (a := 7) (b := 4) (by kernel_rfl) (by kernel_rfl) false (by decide)) ?_
  refine wl_val (.bool false) (by kernel_rfl) (by kernel_rfl) ?_
  refine wl_nil ?_
  refine then_at (F := ⟨(iN .i64 7 :: .string s :: iN .i64 n :: un :: un :: un :: .bool false :: iN .i64 7 :: .bool false :: .bool false :: un :: un :: un :: un :: un :: un :: .bool false :: .bool false :: List.replicate 19 un).toArray, []⟩) (by kernel_rfl) ?_
  refine wp_cond_false (by kernel_rfl) ?_
  -- region 5
  refine wl_region ?_
  refine wl_val (.bool true) (by kernel_rfl) (run_eqi (k := .i64) (a := 7) (b := 7) (by kernel_rfl) (by kernel_rfl) true (by decide)) ?_
  refine wl_val (.bool true) (by kernel_rfl) (by kernel_rfl) ?_
  refine wl_nil ?_
  refine then_at (F := ⟨(iN .i64 7 :: .string s :: iN .i64 n :: un :: un :: un :: .bool false :: iN .i64 7 :: .bool false :: .bool false :: un :: un :: un :: un :: un :: un :: .bool true :: .bool false :: .bool true :: List.replicate 18 un).toArray, []⟩) (by kernel_rfl) ?_
  refine wp_cond_true (by kernel_rfl) ?_
  refine wp_seq ?_
  -- region 6
  refine wl_region ?_
  refine wl_val (.string s) (by kernel_rfl) (by kernel_rfl) ?_
  refine wl_val (.bool false) (by kernel_rfl) (run_eqs (s := s) (t := { data := #[] }) (by kernel_rfl) (by kernel_rfl) false (decide_eq_false hs)) ?_
  refine wl_val (.bool false) (by kernel_rfl) (by kernel_rfl) ?_
  refine wl_skip (by kernel_rfl) ?_
  refine wl_skip (by kernel_rfl) ?_
  refine wl_val (.bool false) (by kernel_rfl) (by kernel_rfl) ?_
  refine wl_val (.bool false) (by kernel_rfl) (by kernel_rfl) ?_
  refine wl_nil ?_
  refine then_at (F := ⟨(iN .i64 7 :: .string s :: iN .i64 n :: un :: un :: un :: .bool false :: iN .i64 7 :: .bool false :: .bool false :: un :: un :: un :: un :: un :: un :: .bool true :: .bool false :: .bool true :: .string s :: .bool false :: .bool false :: un :: un :: .bool false :: List.replicate 12 un).toArray, []⟩) (by kernel_rfl) ?_
  refine wp_ret ?_
  repeat first | refine then_ret ?_ | refine block_ret ?_
  exact bodyPost_ret (v := .bool false) (by kernel_rfl) rfl ⟨rfl, H0.old.old⟩
set_option linter.unusedVariables false in
set_option maxRecDepth 100000 in
set_option maxHeartbeats 2000000 in
theorem mb6_y  (s : ByteArray) (n : Nat) (w : World) (hs : s = { data := #[] }) (hn : n = 4) :
    Calls Try.prog 39 #[iN .i64 6, .string s, iN .i64 n] w fun e w' => e = .returned (.bool true) ∧ Below w.heap.size w w' := by
  have H0 := HA.start w
  go_enter Try.func39, Try.ntmps39
  refine wp_seq ?_
  -- region 0
  refine wl_region ?_
  refine wl_val (.bool false) (by kernel_rfl) (by kernel_rfl) ?_
  refine wl_nil ?_
  refine then_at (F := ⟨(iN .i64 6 :: .string s :: iN .i64 n :: un :: un :: un :: .bool false :: List.replicate 30 un).toArray, []⟩) (by kernel_rfl) ?_
  refine wp_seq ?_
  refine wp_seq ?_
  -- region 1
  refine wl_region ?_
  refine wl_val (iN .i64 6) (by kernel_rfl) (by kernel_rfl) ?_
  refine wl_nil ?_
  refine then_at (F := ⟨(iN .i64 6 :: .string s :: iN .i64 n :: un :: un :: un :: .bool false :: iN .i64 6 :: List.replicate 29 un).toArray, []⟩) (by kernel_rfl) ?_
  refine wp_block ?_
  refine wp_seq ?_
  -- region 2
  refine wl_region ?_
  refine wl_val (.bool false) (by kernel_rfl) (run_eqi (k := .i64) (a := 6) (b := 3) (by kernel_rfl) (by kernel_rfl) false (by decide)) ?_
  refine wl_val (.bool false) (by kernel_rfl) (by kernel_rfl) ?_
  refine wl_nil ?_
  refine then_at (F := ⟨(iN .i64 6 :: .string s :: iN .i64 n :: un :: un :: un :: .bool false :: iN .i64 6 :: .bool false :: .bool false :: List.replicate 27 un).toArray, []⟩) (by kernel_rfl) ?_
  refine wp_cond_false (by kernel_rfl) ?_
  refine wp_seq ?_
  refine wp_seq ?_
  -- region 4
  refine wl_region ?_
  refine wl_val (.bool false) (by kernel_rfl) (run_eqi (k := .i64) (a := 6) (b := 4) (by kernel_rfl) (by kernel_rfl) false (by decide)) ?_
  refine wl_val (.bool false) (by kernel_rfl) (by kernel_rfl) ?_
  refine wl_nil ?_
  refine then_at (F := ⟨(iN .i64 6 :: .string s :: iN .i64 n :: un :: un :: un :: .bool false :: iN .i64 6 :: .bool false :: .bool false :: un :: un :: un :: un :: un :: un :: .bool false :: .bool false :: List.replicate 19 un).toArray, []⟩) (by kernel_rfl) ?_
  refine wp_cond_false (by kernel_rfl) ?_
  -- region 5
  refine wl_region ?_
  refine wl_val (.bool false) (by kernel_rfl) (run_eqi (k := .i64) (a := 6) (b := 7) (by kernel_rfl) (by kernel_rfl) false (by decide)) ?_
  refine wl_val (.bool false) (by kernel_rfl) (by kernel_rfl) ?_
  refine wl_nil ?_
  refine then_at (F := ⟨(iN .i64 6 :: .string s :: iN .i64 n :: un :: un :: un :: .bool false :: iN .i64 6 :: .bool false :: .bool false :: un :: un :: un :: un :: un :: un :: .bool false :: .bool false :: .bool false :: List.replicate 18 un).toArray, []⟩) (by kernel_rfl) ?_
  refine wp_cond_false (by kernel_rfl) ?_
  refine wp_seq ?_
  -- region 7
  refine wl_region ?_
  refine wl_val (.bool true) (by kernel_rfl) (run_eqi (k := .i64) (a := 6) (b := 6) (by kernel_rfl) (by kernel_rfl) true (by decide)) ?_
  refine wl_val (.bool true) (by kernel_rfl) (by kernel_rfl) ?_
  refine wl_nil ?_
  refine then_at (F := ⟨(iN .i64 6 :: .string s :: iN .i64 n :: un :: un :: un :: .bool false :: iN .i64 6 :: .bool false :: .bool false :: un :: un :: un :: un :: un :: un :: .bool false :: .bool false :: .bool false :: un :: un :: un :: un :: un :: un :: .bool true :: .bool true :: List.replicate 10 un).toArray, []⟩) (by kernel_rfl) ?_
  refine wp_cond_true (by kernel_rfl) ?_
  refine wp_seq ?_
  -- region 8
  refine wl_region ?_
  refine wl_val (.string s) (by kernel_rfl) (by kernel_rfl) ?_
  refine wl_val (.bool true) (by kernel_rfl) (run_eqs (s := s) (t := { data := #[] }) (by kernel_rfl) (by kernel_rfl) true (decide_eq_true hs)) ?_
  refine wl_val (.bool true) (by kernel_rfl) (by kernel_rfl) ?_
  refine wl_val (iN .i64 n) (by kernel_rfl) (by kernel_rfl) ?_
  refine wl_val (.bool true) (by kernel_rfl) (run_eqi (k := .i64) (a := n) (b := 4) (by kernel_rfl) (by kernel_rfl) true (decide_eq_true hn)) ?_
  refine wl_val (.bool true) (by kernel_rfl) (by kernel_rfl) ?_
  refine wl_val (.bool true) (by kernel_rfl) (by kernel_rfl) ?_
  refine wl_nil ?_
  refine then_at (F := ⟨(iN .i64 6 :: .string s :: iN .i64 n :: un :: un :: un :: .bool true :: iN .i64 6 :: .bool false :: .bool false :: un :: un :: un :: un :: un :: un :: .bool false :: .bool false :: .bool false :: un :: un :: un :: un :: un :: un :: .bool true :: .bool true :: .string s :: .bool true :: .bool true :: iN .i64 n :: .bool true :: .bool true :: List.replicate 4 un).toArray, []⟩) (by kernel_rfl) ?_
  refine wp_ret ?_
  repeat first | refine then_ret ?_ | refine block_ret ?_
  exact bodyPost_ret (v := .bool true) (by kernel_rfl) rfl ⟨rfl, H0.old.old⟩
set_option linter.unusedVariables false in
set_option maxRecDepth 100000 in
set_option maxHeartbeats 2000000 in
theorem mb6_n  (s : ByteArray) (n : Nat) (w : World) (hs : s = { data := #[] }) (hn : ¬ n = 4) :
    Calls Try.prog 39 #[iN .i64 6, .string s, iN .i64 n] w fun e w' => e = .returned (.bool false) ∧ Below w.heap.size w w' := by
  have H0 := HA.start w
  go_enter Try.func39, Try.ntmps39
  refine wp_seq ?_
  -- region 0
  refine wl_region ?_
  refine wl_val (.bool false) (by kernel_rfl) (by kernel_rfl) ?_
  refine wl_nil ?_
  refine then_at (F := ⟨(iN .i64 6 :: .string s :: iN .i64 n :: un :: un :: un :: .bool false :: List.replicate 30 un).toArray, []⟩) (by kernel_rfl) ?_
  refine wp_seq ?_
  refine wp_seq ?_
  -- region 1
  refine wl_region ?_
  refine wl_val (iN .i64 6) (by kernel_rfl) (by kernel_rfl) ?_
  refine wl_nil ?_
  refine then_at (F := ⟨(iN .i64 6 :: .string s :: iN .i64 n :: un :: un :: un :: .bool false :: iN .i64 6 :: List.replicate 29 un).toArray, []⟩) (by kernel_rfl) ?_
  refine wp_block ?_
  refine wp_seq ?_
  -- region 2
  refine wl_region ?_
  refine wl_val (.bool false) (by kernel_rfl) (run_eqi (k := .i64) (a := 6) (b := 3) (by kernel_rfl) (by kernel_rfl) false (by decide)) ?_
  refine wl_val (.bool false) (by kernel_rfl) (by kernel_rfl) ?_
  refine wl_nil ?_
  refine then_at (F := ⟨(iN .i64 6 :: .string s :: iN .i64 n :: un :: un :: un :: .bool false :: iN .i64 6 :: .bool false :: .bool false :: List.replicate 27 un).toArray, []⟩) (by kernel_rfl) ?_
  refine wp_cond_false (by kernel_rfl) ?_
  refine wp_seq ?_
  refine wp_seq ?_
  -- region 4
  refine wl_region ?_
  refine wl_val (.bool false) (by kernel_rfl) (run_eqi (k := .i64) (a := 6) (b := 4) (by kernel_rfl) (by kernel_rfl) false (by decide)) ?_
  refine wl_val (.bool false) (by kernel_rfl) (by kernel_rfl) ?_
  refine wl_nil ?_
  refine then_at (F := ⟨(iN .i64 6 :: .string s :: iN .i64 n :: un :: un :: un :: .bool false :: iN .i64 6 :: .bool false :: .bool false :: un :: un :: un :: un :: un :: un :: .bool false :: .bool false :: List.replicate 19 un).toArray, []⟩) (by kernel_rfl) ?_
  refine wp_cond_false (by kernel_rfl) ?_
  -- region 5
  refine wl_region ?_
  refine wl_val (.bool false) (by kernel_rfl) (run_eqi (k := .i64) (a := 6) (b := 7) (by kernel_rfl) (by kernel_rfl) false (by decide)) ?_
  refine wl_val (.bool false) (by kernel_rfl) (by kernel_rfl) ?_
  refine wl_nil ?_
  refine then_at (F := ⟨(iN .i64 6 :: .string s :: iN .i64 n :: un :: un :: un :: .bool false :: iN .i64 6 :: .bool false :: .bool false :: un :: un :: un :: un :: un :: un :: .bool false :: .bool false :: .bool false :: List.replicate 18 un).toArray, []⟩) (by kernel_rfl) ?_
  refine wp_cond_false (by kernel_rfl) ?_
  refine wp_seq ?_
  -- region 7
  refine wl_region ?_
  refine wl_val (.bool true) (by kernel_rfl) (run_eqi (k := .i64) (a := 6) (b := 6) (by kernel_rfl) (by kernel_rfl) true (by decide)) ?_
  refine wl_val (.bool true) (by kernel_rfl) (by kernel_rfl) ?_
  refine wl_nil ?_
  refine then_at (F := ⟨(iN .i64 6 :: .string s :: iN .i64 n :: un :: un :: un :: .bool false :: iN .i64 6 :: .bool false :: .bool false :: un :: un :: un :: un :: un :: un :: .bool false :: .bool false :: .bool false :: un :: un :: un :: un :: un :: un :: .bool true :: .bool true :: List.replicate 10 un).toArray, []⟩) (by kernel_rfl) ?_
  refine wp_cond_true (by kernel_rfl) ?_
  refine wp_seq ?_
  -- region 8
  refine wl_region ?_
  refine wl_val (.string s) (by kernel_rfl) (by kernel_rfl) ?_
  refine wl_val (.bool true) (by kernel_rfl) (run_eqs (s := s) (t := { data := #[] }) (by kernel_rfl) (by kernel_rfl) true (decide_eq_true hs)) ?_
  refine wl_val (.bool true) (by kernel_rfl) (by kernel_rfl) ?_
  refine wl_val (iN .i64 n) (by kernel_rfl) (by kernel_rfl) ?_
  refine wl_val (.bool false) (by kernel_rfl) (run_eqi (k := .i64) (a := n) (b := 4) (by kernel_rfl) (by kernel_rfl) false (decide_eq_false hn)) ?_
  refine wl_val (.bool false) (by kernel_rfl) (by kernel_rfl) ?_
  refine wl_val (.bool false) (by kernel_rfl) (by kernel_rfl) ?_
  refine wl_nil ?_
  refine then_at (F := ⟨(iN .i64 6 :: .string s :: iN .i64 n :: un :: un :: un :: .bool false :: iN .i64 6 :: .bool false :: .bool false :: un :: un :: un :: un :: un :: un :: .bool false :: .bool false :: .bool false :: un :: un :: un :: un :: un :: un :: .bool true :: .bool true :: .string s :: .bool true :: .bool true :: iN .i64 n :: .bool false :: .bool false :: List.replicate 4 un).toArray, []⟩) (by kernel_rfl) ?_
  refine wp_ret ?_
  repeat first | refine then_ret ?_ | refine block_ret ?_
  exact bodyPost_ret (v := .bool false) (by kernel_rfl) rfl ⟨rfl, H0.old.old⟩
set_option linter.unusedVariables false in
set_option maxRecDepth 100000 in
set_option maxHeartbeats 2000000 in
theorem mb6_s  (s : ByteArray) (n : Nat) (w : World) (hs : s ≠ { data := #[] }) :
    Calls Try.prog 39 #[iN .i64 6, .string s, iN .i64 n] w fun e w' => e = .returned (.bool false) ∧ Below w.heap.size w w' := by
  have H0 := HA.start w
  go_enter Try.func39, Try.ntmps39
  refine wp_seq ?_
  -- region 0
  refine wl_region ?_
  refine wl_val (.bool false) (by kernel_rfl) (by kernel_rfl) ?_
  refine wl_nil ?_
  refine then_at (F := ⟨(iN .i64 6 :: .string s :: iN .i64 n :: un :: un :: un :: .bool false :: List.replicate 30 un).toArray, []⟩) (by kernel_rfl) ?_
  refine wp_seq ?_
  refine wp_seq ?_
  -- region 1
  refine wl_region ?_
  refine wl_val (iN .i64 6) (by kernel_rfl) (by kernel_rfl) ?_
  refine wl_nil ?_
  refine then_at (F := ⟨(iN .i64 6 :: .string s :: iN .i64 n :: un :: un :: un :: .bool false :: iN .i64 6 :: List.replicate 29 un).toArray, []⟩) (by kernel_rfl) ?_
  refine wp_block ?_
  refine wp_seq ?_
  -- region 2
  refine wl_region ?_
  refine wl_val (.bool false) (by kernel_rfl) (run_eqi (k := .i64) (a := 6) (b := 3) (by kernel_rfl) (by kernel_rfl) false (by decide)) ?_
  refine wl_val (.bool false) (by kernel_rfl) (by kernel_rfl) ?_
  refine wl_nil ?_
  refine then_at (F := ⟨(iN .i64 6 :: .string s :: iN .i64 n :: un :: un :: un :: .bool false :: iN .i64 6 :: .bool false :: .bool false :: List.replicate 27 un).toArray, []⟩) (by kernel_rfl) ?_
  refine wp_cond_false (by kernel_rfl) ?_
  refine wp_seq ?_
  refine wp_seq ?_
  -- region 4
  refine wl_region ?_
  refine wl_val (.bool false) (by kernel_rfl) (run_eqi (k := .i64) (a := 6) (b := 4) (by kernel_rfl) (by kernel_rfl) false (by decide)) ?_
  refine wl_val (.bool false) (by kernel_rfl) (by kernel_rfl) ?_
  refine wl_nil ?_
  refine then_at (F := ⟨(iN .i64 6 :: .string s :: iN .i64 n :: un :: un :: un :: .bool false :: iN .i64 6 :: .bool false :: .bool false :: un :: un :: un :: un :: un :: un :: .bool false :: .bool false :: List.replicate 19 un).toArray, []⟩) (by kernel_rfl) ?_
  refine wp_cond_false (by kernel_rfl) ?_
  -- region 5
  refine wl_region ?_
  refine wl_val (.bool false) (by kernel_rfl) (run_eqi (k := .i64) (a := 6) (b := 7) (by kernel_rfl) (by kernel_rfl) false (by decide)) ?_
  refine wl_val (.bool false) (by kernel_rfl) (by kernel_rfl) ?_
  refine wl_nil ?_
  refine then_at (F := ⟨(iN .i64 6 :: .string s :: iN .i64 n :: un :: un :: un :: .bool false :: iN .i64 6 :: .bool false :: .bool false :: un :: un :: un :: un :: un :: un :: .bool false :: .bool false :: .bool false :: List.replicate 18 un).toArray, []⟩) (by kernel_rfl) ?_
  refine wp_cond_false (by kernel_rfl) ?_
  refine wp_seq ?_
  -- region 7
  refine wl_region ?_
  refine wl_val (.bool true) (by kernel_rfl) (run_eqi (k := .i64) (a := 6) (b := 6) (by kernel_rfl) (by kernel_rfl) true (by decide)) ?_
  refine wl_val (.bool true) (by kernel_rfl) (by kernel_rfl) ?_
  refine wl_nil ?_
  refine then_at (F := ⟨(iN .i64 6 :: .string s :: iN .i64 n :: un :: un :: un :: .bool false :: iN .i64 6 :: .bool false :: .bool false :: un :: un :: un :: un :: un :: un :: .bool false :: .bool false :: .bool false :: un :: un :: un :: un :: un :: un :: .bool true :: .bool true :: List.replicate 10 un).toArray, []⟩) (by kernel_rfl) ?_
  refine wp_cond_true (by kernel_rfl) ?_
  refine wp_seq ?_
  -- region 8
  refine wl_region ?_
  refine wl_val (.string s) (by kernel_rfl) (by kernel_rfl) ?_
  refine wl_val (.bool false) (by kernel_rfl) (run_eqs (s := s) (t := { data := #[] }) (by kernel_rfl) (by kernel_rfl) false (decide_eq_false hs)) ?_
  refine wl_val (.bool false) (by kernel_rfl) (by kernel_rfl) ?_
  refine wl_skip (by kernel_rfl) ?_
  refine wl_skip (by kernel_rfl) ?_
  refine wl_val (.bool false) (by kernel_rfl) (by kernel_rfl) ?_
  refine wl_val (.bool false) (by kernel_rfl) (by kernel_rfl) ?_
  refine wl_nil ?_
  refine then_at (F := ⟨(iN .i64 6 :: .string s :: iN .i64 n :: un :: un :: un :: .bool false :: iN .i64 6 :: .bool false :: .bool false :: un :: un :: un :: un :: un :: un :: .bool false :: .bool false :: .bool false :: un :: un :: un :: un :: un :: un :: .bool true :: .bool true :: .string s :: .bool false :: .bool false :: un :: un :: .bool false :: List.replicate 4 un).toArray, []⟩) (by kernel_rfl) ?_
  refine wp_ret ?_
  repeat first | refine then_ret ?_ | refine block_ret ?_
  exact bodyPost_ret (v := .bool false) (by kernel_rfl) rfl ⟨rfl, H0.old.old⟩
set_option linter.unusedVariables false in
set_option maxRecDepth 100000 in
set_option maxHeartbeats 2000000 in
theorem mb5_y  (s : ByteArray) (n : Nat) (w : World) (hn : n ≤ 100) :
    Calls Try.prog 39 #[iN .i64 5, .string s, iN .i64 n] w fun e w' => e = .returned (.bool true) ∧ Below w.heap.size w w' := by
  have H0 := HA.start w
  go_enter Try.func39, Try.ntmps39
  refine wp_seq ?_
  -- region 0
  refine wl_region ?_
  refine wl_val (.bool false) (by kernel_rfl) (by kernel_rfl) ?_
  refine wl_nil ?_
  refine then_at (F := ⟨(iN .i64 5 :: .string s :: iN .i64 n :: un :: un :: un :: .bool false :: List.replicate 30 un).toArray, []⟩) (by kernel_rfl) ?_
  refine wp_seq ?_
  refine wp_seq ?_
  -- region 1
  refine wl_region ?_
  refine wl_val (iN .i64 5) (by kernel_rfl) (by kernel_rfl) ?_
  refine wl_nil ?_
  refine then_at (F := ⟨(iN .i64 5 :: .string s :: iN .i64 n :: un :: un :: un :: .bool false :: iN .i64 5 :: List.replicate 29 un).toArray, []⟩) (by kernel_rfl) ?_
  refine wp_block ?_
  refine wp_seq ?_
  -- region 2
  refine wl_region ?_
  refine wl_val (.bool false) (by kernel_rfl) (run_eqi (k := .i64) (a := 5) (b := 3) (by kernel_rfl) (by kernel_rfl) false (by decide)) ?_
  refine wl_val (.bool false) (by kernel_rfl) (by kernel_rfl) ?_
  refine wl_nil ?_
  refine then_at (F := ⟨(iN .i64 5 :: .string s :: iN .i64 n :: un :: un :: un :: .bool false :: iN .i64 5 :: .bool false :: .bool false :: List.replicate 27 un).toArray, []⟩) (by kernel_rfl) ?_
  refine wp_cond_false (by kernel_rfl) ?_
  refine wp_seq ?_
  refine wp_seq ?_
  -- region 4
  refine wl_region ?_
  refine wl_val (.bool false) (by kernel_rfl) (run_eqi (k := .i64) (a := 5) (b := 4) (by kernel_rfl) (by kernel_rfl) false (by decide)) ?_
  refine wl_val (.bool false) (by kernel_rfl) (by kernel_rfl) ?_
  refine wl_nil ?_
  refine then_at (F := ⟨(iN .i64 5 :: .string s :: iN .i64 n :: un :: un :: un :: .bool false :: iN .i64 5 :: .bool false :: .bool false :: un :: un :: un :: un :: un :: un :: .bool false :: .bool false :: List.replicate 19 un).toArray, []⟩) (by kernel_rfl) ?_
  refine wp_cond_false (by kernel_rfl) ?_
  -- region 5
  refine wl_region ?_
  refine wl_val (.bool false) (by kernel_rfl) (run_eqi (k := .i64) (a := 5) (b := 7) (by kernel_rfl) (by kernel_rfl) false (by decide)) ?_
  refine wl_val (.bool false) (by kernel_rfl) (by kernel_rfl) ?_
  refine wl_nil ?_
  refine then_at (F := ⟨(iN .i64 5 :: .string s :: iN .i64 n :: un :: un :: un :: .bool false :: iN .i64 5 :: .bool false :: .bool false :: un :: un :: un :: un :: un :: un :: .bool false :: .bool false :: .bool false :: List.replicate 18 un).toArray, []⟩) (by kernel_rfl) ?_
  refine wp_cond_false (by kernel_rfl) ?_
  refine wp_seq ?_
  -- region 7
  refine wl_region ?_
  refine wl_val (.bool false) (by kernel_rfl) (run_eqi (k := .i64) (a := 5) (b := 6) (by kernel_rfl) (by kernel_rfl) false (by decide)) ?_
  refine wl_val (.bool false) (by kernel_rfl) (by kernel_rfl) ?_
  refine wl_nil ?_
  refine then_at (F := ⟨(iN .i64 5 :: .string s :: iN .i64 n :: un :: un :: un :: .bool false :: iN .i64 5 :: .bool false :: .bool false :: un :: un :: un :: un :: un :: un :: .bool false :: .bool false :: .bool false :: un :: un :: un :: un :: un :: un :: .bool false :: .bool false :: List.replicate 10 un).toArray, []⟩) (by kernel_rfl) ?_
  refine wp_cond_false (by kernel_rfl) ?_
  refine wp_seq ?_
  -- region 9
  refine wl_region ?_
  refine wl_val (.bool true) (by kernel_rfl) (run_eqi (k := .i64) (a := 5) (b := 5) (by kernel_rfl) (by kernel_rfl) true (by decide)) ?_
  refine wl_val (.bool true) (by kernel_rfl) (by kernel_rfl) ?_
  refine wl_nil ?_
  refine then_at (F := ⟨(iN .i64 5 :: .string s :: iN .i64 n :: un :: un :: un :: .bool false :: iN .i64 5 :: .bool false :: .bool false :: un :: un :: un :: un :: un :: un :: .bool false :: .bool false :: .bool false :: un :: un :: un :: un :: un :: un :: .bool false :: .bool false :: un :: un :: un :: un :: un :: un :: .bool true :: .bool true :: List.replicate 2 un).toArray, []⟩) (by kernel_rfl) ?_
  refine wp_cond_true (by kernel_rfl) ?_
  refine wp_seq ?_
  -- region 10
  refine wl_region ?_
  refine wl_val (iN .i64 n) (by kernel_rfl) (by kernel_rfl) ?_
  refine wl_val (.bool true) (by kernel_rfl) (run_leq (k := .i64) (a := n) (b := 100) (by kernel_rfl) (by kernel_rfl) true (decide_eq_true hn)) ?_
  refine wl_val (.bool true) (by kernel_rfl) (by kernel_rfl) ?_
  refine wl_nil ?_
  refine then_at (F := ⟨(iN .i64 5 :: .string s :: iN .i64 n :: un :: un :: un :: .bool true :: iN .i64 5 :: .bool false :: .bool false :: un :: un :: un :: un :: un :: un :: .bool false :: .bool false :: .bool false :: un :: un :: un :: un :: un :: un :: .bool false :: .bool false :: un :: un :: un :: un :: un :: un :: .bool true :: .bool true :: iN .i64 n :: .bool true :: List.replicate 0 un).toArray, []⟩) (by kernel_rfl) ?_
  refine wp_ret ?_
  repeat first | refine then_ret ?_ | refine block_ret ?_
  exact bodyPost_ret (v := .bool true) (by kernel_rfl) rfl ⟨rfl, H0.old.old⟩
set_option linter.unusedVariables false in
set_option maxRecDepth 100000 in
set_option maxHeartbeats 2000000 in
theorem mb5_n  (s : ByteArray) (n : Nat) (w : World) (hn : ¬ n ≤ 100) :
    Calls Try.prog 39 #[iN .i64 5, .string s, iN .i64 n] w fun e w' => e = .returned (.bool false) ∧ Below w.heap.size w w' := by
  have H0 := HA.start w
  go_enter Try.func39, Try.ntmps39
  refine wp_seq ?_
  -- region 0
  refine wl_region ?_
  refine wl_val (.bool false) (by kernel_rfl) (by kernel_rfl) ?_
  refine wl_nil ?_
  refine then_at (F := ⟨(iN .i64 5 :: .string s :: iN .i64 n :: un :: un :: un :: .bool false :: List.replicate 30 un).toArray, []⟩) (by kernel_rfl) ?_
  refine wp_seq ?_
  refine wp_seq ?_
  -- region 1
  refine wl_region ?_
  refine wl_val (iN .i64 5) (by kernel_rfl) (by kernel_rfl) ?_
  refine wl_nil ?_
  refine then_at (F := ⟨(iN .i64 5 :: .string s :: iN .i64 n :: un :: un :: un :: .bool false :: iN .i64 5 :: List.replicate 29 un).toArray, []⟩) (by kernel_rfl) ?_
  refine wp_block ?_
  refine wp_seq ?_
  -- region 2
  refine wl_region ?_
  refine wl_val (.bool false) (by kernel_rfl) (run_eqi (k := .i64) (a := 5) (b := 3) (by kernel_rfl) (by kernel_rfl) false (by decide)) ?_
  refine wl_val (.bool false) (by kernel_rfl) (by kernel_rfl) ?_
  refine wl_nil ?_
  refine then_at (F := ⟨(iN .i64 5 :: .string s :: iN .i64 n :: un :: un :: un :: .bool false :: iN .i64 5 :: .bool false :: .bool false :: List.replicate 27 un).toArray, []⟩) (by kernel_rfl) ?_
  refine wp_cond_false (by kernel_rfl) ?_
  refine wp_seq ?_
  refine wp_seq ?_
  -- region 4
  refine wl_region ?_
  refine wl_val (.bool false) (by kernel_rfl) (run_eqi (k := .i64) (a := 5) (b := 4) (by kernel_rfl) (by kernel_rfl) false (by decide)) ?_
  refine wl_val (.bool false) (by kernel_rfl) (by kernel_rfl) ?_
  refine wl_nil ?_
  refine then_at (F := ⟨(iN .i64 5 :: .string s :: iN .i64 n :: un :: un :: un :: .bool false :: iN .i64 5 :: .bool false :: .bool false :: un :: un :: un :: un :: un :: un :: .bool false :: .bool false :: List.replicate 19 un).toArray, []⟩) (by kernel_rfl) ?_
  refine wp_cond_false (by kernel_rfl) ?_
  -- region 5
  refine wl_region ?_
  refine wl_val (.bool false) (by kernel_rfl) (run_eqi (k := .i64) (a := 5) (b := 7) (by kernel_rfl) (by kernel_rfl) false (by decide)) ?_
  refine wl_val (.bool false) (by kernel_rfl) (by kernel_rfl) ?_
  refine wl_nil ?_
  refine then_at (F := ⟨(iN .i64 5 :: .string s :: iN .i64 n :: un :: un :: un :: .bool false :: iN .i64 5 :: .bool false :: .bool false :: un :: un :: un :: un :: un :: un :: .bool false :: .bool false :: .bool false :: List.replicate 18 un).toArray, []⟩) (by kernel_rfl) ?_
  refine wp_cond_false (by kernel_rfl) ?_
  refine wp_seq ?_
  -- region 7
  refine wl_region ?_
  refine wl_val (.bool false) (by kernel_rfl) (run_eqi (k := .i64) (a := 5) (b := 6) (by kernel_rfl) (by kernel_rfl) false (by decide)) ?_
  refine wl_val (.bool false) (by kernel_rfl) (by kernel_rfl) ?_
  refine wl_nil ?_
  refine then_at (F := ⟨(iN .i64 5 :: .string s :: iN .i64 n :: un :: un :: un :: .bool false :: iN .i64 5 :: .bool false :: .bool false :: un :: un :: un :: un :: un :: un :: .bool false :: .bool false :: .bool false :: un :: un :: un :: un :: un :: un :: .bool false :: .bool false :: List.replicate 10 un).toArray, []⟩) (by kernel_rfl) ?_
  refine wp_cond_false (by kernel_rfl) ?_
  refine wp_seq ?_
  -- region 9
  refine wl_region ?_
  refine wl_val (.bool true) (by kernel_rfl) (run_eqi (k := .i64) (a := 5) (b := 5) (by kernel_rfl) (by kernel_rfl) true (by decide)) ?_
  refine wl_val (.bool true) (by kernel_rfl) (by kernel_rfl) ?_
  refine wl_nil ?_
  refine then_at (F := ⟨(iN .i64 5 :: .string s :: iN .i64 n :: un :: un :: un :: .bool false :: iN .i64 5 :: .bool false :: .bool false :: un :: un :: un :: un :: un :: un :: .bool false :: .bool false :: .bool false :: un :: un :: un :: un :: un :: un :: .bool false :: .bool false :: un :: un :: un :: un :: un :: un :: .bool true :: .bool true :: List.replicate 2 un).toArray, []⟩) (by kernel_rfl) ?_
  refine wp_cond_true (by kernel_rfl) ?_
  refine wp_seq ?_
  -- region 10
  refine wl_region ?_
  refine wl_val (iN .i64 n) (by kernel_rfl) (by kernel_rfl) ?_
  refine wl_val (.bool false) (by kernel_rfl) (run_leq (k := .i64) (a := n) (b := 100) (by kernel_rfl) (by kernel_rfl) false (decide_eq_false hn)) ?_
  refine wl_val (.bool false) (by kernel_rfl) (by kernel_rfl) ?_
  refine wl_nil ?_
  refine then_at (F := ⟨(iN .i64 5 :: .string s :: iN .i64 n :: un :: un :: un :: .bool false :: iN .i64 5 :: .bool false :: .bool false :: un :: un :: un :: un :: un :: un :: .bool false :: .bool false :: .bool false :: un :: un :: un :: un :: un :: un :: .bool false :: .bool false :: un :: un :: un :: un :: un :: un :: .bool true :: .bool true :: iN .i64 n :: .bool false :: List.replicate 0 un).toArray, []⟩) (by kernel_rfl) ?_
  refine wp_ret ?_
  repeat first | refine then_ret ?_ | refine block_ret ?_
  exact bodyPost_ret (v := .bool false) (by kernel_rfl) rfl ⟨rfl, H0.old.old⟩
set_option linter.unusedVariables false in
set_option maxRecDepth 100000 in
set_option maxHeartbeats 2000000 in
theorem mb_o (z : Int) (hz : z ≠ 3 ∧ z ≠ 4 ∧ z ≠ 5 ∧ z ≠ 6 ∧ z ≠ 7) (s : ByteArray) (n : Nat) (w : World) :
    Calls Try.prog 39 #[.int .i64 z, .string s, iN .i64 n] w fun e w' => e = .returned (.bool false) ∧ Below w.heap.size w w' := by
  have H0 := HA.start w
  go_enter Try.func39, Try.ntmps39
  refine wp_seq ?_
  -- region 0
  refine wl_region ?_
  refine wl_val (.bool false) (by kernel_rfl) (by kernel_rfl) ?_
  refine wl_nil ?_
  refine then_at (F := ⟨(.int .i64 z :: .string s :: iN .i64 n :: un :: un :: un :: .bool false :: List.replicate 30 un).toArray, []⟩) (by kernel_rfl) ?_
  refine wp_seq ?_
  refine wp_seq ?_
  -- region 1
  refine wl_region ?_
  refine wl_val (.int .i64 z) (by kernel_rfl) (by kernel_rfl) ?_
  refine wl_nil ?_
  refine then_at (F := ⟨(.int .i64 z :: .string s :: iN .i64 n :: un :: un :: un :: .bool false :: .int .i64 z :: List.replicate 29 un).toArray, []⟩) (by kernel_rfl) ?_
  refine wp_block ?_
  refine wp_seq ?_
  -- region 2
  refine wl_region ?_
  refine wl_val (.bool false) (by kernel_rfl) (run_eqz (k := .i64) (a := z) (b := 3) (by kernel_rfl) (by kernel_rfl) false (decide_eq_false (by omega))) ?_
  refine wl_val (.bool false) (by kernel_rfl) (by kernel_rfl) ?_
  refine wl_nil ?_
  refine then_at (F := ⟨(.int .i64 z :: .string s :: iN .i64 n :: un :: un :: un :: .bool false :: .int .i64 z :: .bool false :: .bool false :: List.replicate 27 un).toArray, []⟩) (by kernel_rfl) ?_
  refine wp_cond_false (by kernel_rfl) ?_
  refine wp_seq ?_
  refine wp_seq ?_
  -- region 4
  refine wl_region ?_
  refine wl_val (.bool false) (by kernel_rfl) (run_eqz (k := .i64) (a := z) (b := 4) (by kernel_rfl) (by kernel_rfl) false (decide_eq_false (by omega))) ?_
  refine wl_val (.bool false) (by kernel_rfl) (by kernel_rfl) ?_
  refine wl_nil ?_
  refine then_at (F := ⟨(.int .i64 z :: .string s :: iN .i64 n :: un :: un :: un :: .bool false :: .int .i64 z :: .bool false :: .bool false :: un :: un :: un :: un :: un :: un :: .bool false :: .bool false :: List.replicate 19 un).toArray, []⟩) (by kernel_rfl) ?_
  refine wp_cond_false (by kernel_rfl) ?_
  -- region 5
  refine wl_region ?_
  refine wl_val (.bool false) (by kernel_rfl) (run_eqz (k := .i64) (a := z) (b := 7) (by kernel_rfl) (by kernel_rfl) false (decide_eq_false (by omega))) ?_
  refine wl_val (.bool false) (by kernel_rfl) (by kernel_rfl) ?_
  refine wl_nil ?_
  refine then_at (F := ⟨(.int .i64 z :: .string s :: iN .i64 n :: un :: un :: un :: .bool false :: .int .i64 z :: .bool false :: .bool false :: un :: un :: un :: un :: un :: un :: .bool false :: .bool false :: .bool false :: List.replicate 18 un).toArray, []⟩) (by kernel_rfl) ?_
  refine wp_cond_false (by kernel_rfl) ?_
  refine wp_seq ?_
  -- region 7
  refine wl_region ?_
  refine wl_val (.bool false) (by kernel_rfl) (run_eqz (k := .i64) (a := z) (b := 6) (by kernel_rfl) (by kernel_rfl) false (decide_eq_false (by omega))) ?_
  refine wl_val (.bool false) (by kernel_rfl) (by kernel_rfl) ?_
  refine wl_nil ?_
  refine then_at (F := ⟨(.int .i64 z :: .string s :: iN .i64 n :: un :: un :: un :: .bool false :: .int .i64 z :: .bool false :: .bool false :: un :: un :: un :: un :: un :: un :: .bool false :: .bool false :: .bool false :: un :: un :: un :: un :: un :: un :: .bool false :: .bool false :: List.replicate 10 un).toArray, []⟩) (by kernel_rfl) ?_
  refine wp_cond_false (by kernel_rfl) ?_
  refine wp_seq ?_
  -- region 9
  refine wl_region ?_
  refine wl_val (.bool false) (by kernel_rfl) (run_eqz (k := .i64) (a := z) (b := 5) (by kernel_rfl) (by kernel_rfl) false (decide_eq_false (by omega))) ?_
  refine wl_val (.bool false) (by kernel_rfl) (by kernel_rfl) ?_
  refine wl_nil ?_
  refine then_at (F := ⟨(.int .i64 z :: .string s :: iN .i64 n :: un :: un :: un :: .bool false :: .int .i64 z :: .bool false :: .bool false :: un :: un :: un :: un :: un :: un :: .bool false :: .bool false :: .bool false :: un :: un :: un :: un :: un :: un :: .bool false :: .bool false :: un :: un :: un :: un :: un :: un :: .bool false :: .bool false :: List.replicate 2 un).toArray, []⟩) (by kernel_rfl) ?_
  refine wp_cond_false (by kernel_rfl) ?_
  refine wp_skip ?_
  refine block_normal ?_
  refine then_at (F := ⟨(.int .i64 z :: .string s :: iN .i64 n :: un :: un :: un :: .bool false :: .int .i64 z :: .bool false :: .bool false :: un :: un :: un :: un :: un :: un :: .bool false :: .bool false :: .bool false :: un :: un :: un :: un :: un :: un :: .bool false :: .bool false :: un :: un :: un :: un :: un :: un :: .bool false :: .bool false :: List.replicate 2 un).toArray, []⟩) (by kernel_rfl) ?_
  refine wp_seq ?_
  -- region 11
  refine wl_region ?_
  refine wl_val (.bool false) (by kernel_rfl) (by kernel_rfl) ?_
  refine wl_nil ?_
  refine then_at (F := ⟨(.int .i64 z :: .string s :: iN .i64 n :: un :: un :: un :: .bool false :: .int .i64 z :: .bool false :: .bool false :: un :: un :: un :: un :: un :: un :: .bool false :: .bool false :: .bool false :: un :: un :: un :: un :: un :: un :: .bool false :: .bool false :: un :: un :: un :: un :: un :: un :: .bool false :: .bool false :: List.replicate 2 un).toArray, []⟩) (by kernel_rfl) ?_
  refine wp_ret ?_
  repeat first | refine then_ret ?_ | refine block_ret ?_
  exact bodyPost_ret (v := .bool false) (by kernel_rfl) rfl ⟨rfl, H0.old.old⟩
/-- may a kind be made of that label, and of so many parts? -/
def mayB (z : Int) (s : ByteArray) (n : Nat) : Bool :=
  if z = 3 then decide (s = { data := #[] } ∧ n = 1) else if z = 4 ∨ z = 7 then decide (s = { data := #[] } ∧ n = 2) else if z = 6 then decide (s = { data := #[] } ∧ n = 4) else if z = 5 then decide (n ≤ 100) else false
theorem mayBe_any (z : Int) (s : ByteArray) (n : Nat) (w : World) :
    Calls Try.prog 39 #[.int .i64 z, .string s, iN .i64 n] w fun e w' => e = .returned (.bool (mayB z s n)) ∧ Below w.heap.size w w' := by
  by_cases h3 : z = 3
  · subst h3
    by_cases hs : s = { data := #[] }
    · by_cases hn : n = 1
      · rw [show mayB 3 s n = true by simp [mayB, hs, hn]]; exact mb3_y s n w hs hn
      · rw [show mayB 3 s n = false by simp [mayB, hs, hn]]; exact mb3_n s n w hs hn
    · rw [show mayB 3 s n = false by simp [mayB, hs]]; exact mb3_s s n w hs
  by_cases h4 : z = 4
  · subst h4
    by_cases hs : s = { data := #[] }
    · by_cases hn : n = 2
      · rw [show mayB 4 s n = true by simp [mayB, hs, hn]]; exact mb4_y s n w hs hn
      · rw [show mayB 4 s n = false by simp [mayB, hs, hn]]; exact mb4_n s n w hs hn
    · rw [show mayB 4 s n = false by simp [mayB, hs]]; exact mb4_s s n w hs
  by_cases h7 : z = 7
  · subst h7
    by_cases hs : s = { data := #[] }
    · by_cases hn : n = 2
      · rw [show mayB 7 s n = true by simp [mayB, hs, hn]]; exact mb7_y s n w hs hn
      · rw [show mayB 7 s n = false by simp [mayB, hs, hn]]; exact mb7_n s n w hs hn
    · rw [show mayB 7 s n = false by simp [mayB, hs]]; exact mb7_s s n w hs
  by_cases h6 : z = 6
  · subst h6
    by_cases hs : s = { data := #[] }
    · by_cases hn : n = 4
      · rw [show mayB 6 s n = true by simp [mayB, hs, hn]]; exact mb6_y s n w hs hn
      · rw [show mayB 6 s n = false by simp [mayB, hs, hn]]; exact mb6_n s n w hs hn
    · rw [show mayB 6 s n = false by simp [mayB, hs]]; exact mb6_s s n w hs
  by_cases h5 : z = 5
  · subst h5
    by_cases hn : n ≤ 100
    · rw [show mayB 5 s n = true by simp [mayB, hn]]; exact mb5_y s n w hn
    · rw [show mayB 5 s n = false by simp [mayB, hn]]; exact mb5_n s n w hn
  rw [show mayB z s n = false by simp [mayB, h3, h4, h5, h6, h7]]
  exact mb_o z ⟨h3, h4, h5, h6, h7⟩ s n w
set_option linter.unusedVariables false in
set_option maxRecDepth 100000 in
set_option maxHeartbeats 2000000 in
theorem isLong_y (s : ByteArray) (hs : 65536 < s.size) (w : World) :
    Calls Try.prog 40 #[.string s] w fun e w' => e = .returned (.bool true) ∧ Below w.heap.size w w' := by
  have H0 := HA.start w
  go_enter Try.func40, Try.ntmps40
  refine wp_seq ?_
  -- region 0
  refine wl_region ?_
  refine wl_val (.bool false) (by kernel_rfl) (by kernel_rfl) ?_
  refine wl_nil ?_
  refine then_at (F := ⟨(.string s :: un :: .bool false :: List.replicate 3 un).toArray, []⟩) (by kernel_rfl) ?_
  refine wp_seq ?_
  -- region 1
  refine wl_region ?_
  refine wl_val (.string s) (by kernel_rfl) (by kernel_rfl) ?_
  refine wl_val (iN .i64 s.size) (by kernel_rfl) (run_len (s := s) (by kernel_rfl)) ?_
  refine wl_val (.bool true) (by kernel_rfl) (run_gtr (k := .i64) (a := s.size) (b := 65536) (by kernel_rfl) (by kernel_rfl) true (decide_eq_true (by omega))) ?_
  refine wl_val (.bool true) (by kernel_rfl) (by kernel_rfl) ?_
  refine wl_nil ?_
  refine then_at (F := ⟨(.string s :: un :: .bool true :: .string s :: iN .i64 s.size :: .bool true :: List.replicate 0 un).toArray, []⟩) (by kernel_rfl) ?_
  refine wp_ret ?_
  repeat first | refine then_ret ?_ | refine block_ret ?_
  exact bodyPost_ret (v := .bool true) (by kernel_rfl) rfl ⟨rfl, H0.old.old⟩
set_option linter.unusedVariables false in
set_option maxRecDepth 100000 in
set_option maxHeartbeats 2000000 in
theorem isLong_n (s : ByteArray) (hs : s.size ≤ 65536) (w : World) :
    Calls Try.prog 40 #[.string s] w fun e w' => e = .returned (.bool false) ∧ Below w.heap.size w w' := by
  have H0 := HA.start w
  go_enter Try.func40, Try.ntmps40
  refine wp_seq ?_
  -- region 0
  refine wl_region ?_
  refine wl_val (.bool false) (by kernel_rfl) (by kernel_rfl) ?_
  refine wl_nil ?_
  refine then_at (F := ⟨(.string s :: un :: .bool false :: List.replicate 3 un).toArray, []⟩) (by kernel_rfl) ?_
  refine wp_seq ?_
  -- region 1
  refine wl_region ?_
  refine wl_val (.string s) (by kernel_rfl) (by kernel_rfl) ?_
  refine wl_val (iN .i64 s.size) (by kernel_rfl) (run_len (s := s) (by kernel_rfl)) ?_
  refine wl_val (.bool false) (by kernel_rfl) (run_gtr (k := .i64) (a := s.size) (b := 65536) (by kernel_rfl) (by kernel_rfl) false (decide_eq_false (by omega))) ?_
  refine wl_val (.bool false) (by kernel_rfl) (by kernel_rfl) ?_
  refine wl_nil ?_
  refine then_at (F := ⟨(.string s :: un :: .bool false :: .string s :: iN .i64 s.size :: .bool false :: List.replicate 0 un).toArray, []⟩) (by kernel_rfl) ?_
  refine wp_ret ?_
  repeat first | refine then_ret ?_ | refine block_ret ?_
  exact bodyPost_ret (v := .bool false) (by kernel_rfl) rfl ⟨rfl, H0.old.old⟩
set_option linter.unusedVariables false in
set_option maxRecDepth 100000 in
set_option maxHeartbeats 2000000 in
theorem idx_no {w : World} (ss : List ByteArray) (o : Option Addr) (c : Nat) (hp : ss = [] ∨ ∃ pq, o = some ⟨pq, 0, none⟩ ∧ Blk w pq 9 (strc ss)) (hss : ∀ i, (ss.getD i ByteArray.empty).size ≤ 65536) (hsl : ss.length ≤ 1000) :
    Calls Try.prog 62 #[.slice o ss.length c, .func (.func 40) #[] #[]] w fun e w' => e = .returned (.int .i64 (-1)) ∧ Below w.heap.size w w' := by
  have H0 := HA.start w
  go_enter Try.func62, Try.ntmps62
  refine wp_seq ?_
  -- region 0
  refine wl_region ?_
  refine wl_val (iN .i64 0) (by kernel_rfl) (by kernel_rfl) ?_
  refine wl_nil ?_
  refine then_at (F := ⟨(.slice o ss.length c :: .func (.func 40) #[] #[] :: un :: un :: iN .i64 0 :: List.replicate 14 un).toArray, []⟩) (by kernel_rfl) ?_
  refine wp_seq ?_
  refine wp_seq ?_
  -- region 1
  refine wl_region ?_
  refine wl_val (.slice o ss.length c) (by kernel_rfl) (by kernel_rfl) ?_
  refine wl_val (iN .i64 ss.length) (by kernel_rfl) (by kernel_rfl) ?_
  refine wl_val (iN .i64 0) (by kernel_rfl) (by kernel_rfl) ?_
  refine wl_nil ?_
  refine then_at (F := ⟨(.slice o ss.length c :: .func (.func 40) #[] #[] :: un :: un :: iN .i64 0 :: un :: .slice o ss.length c :: iN .i64 ss.length :: iN .i64 0 :: List.replicate 10 un).toArray, []⟩) (by kernel_rfl) ?_
  refine wp_block ?_
  refine wp_count (fun i A w' => ∃ u1 : Nat → Value, A = ⟨(.slice o ss.length c :: .func (.func 40) #[] #[] :: un :: un :: u1 4 :: u1 5 :: .slice o ss.length c :: iN .i64 ss.length :: iN .i64 i :: u1 9 :: u1 10 :: u1 11 :: u1 12 :: u1 13 :: u1 14 :: u1 15 :: u1 16 :: u1 17 :: u1 18 :: List.replicate 0 un).toArray, []⟩ ∧ HA (bs w) [] w') ss.length ?_ ?_ ?_
  · exact ⟨fun ii => (([(4, iN .i64 0), (5, undef), (9, undef), (10, undef), (11, undef), (12, undef), (13, undef), (14, undef), (15, undef), (16, undef), (17, undef), (18, undef)] : List (Nat × Value)).find? (·.1 == ii)).elim undef (·.2), by kernel_rfl, H0⟩
  · rintro i hk _ w2 ⟨u1, rfl, hT⟩
    obtain ⟨pq, rfl, hm⟩ := hp.resolve_left (by intro e; rw [e] at hk; simp at hk)
    refine wp_seq ?_
    -- region 2
    refine wl_region ?_
    refine wl_val (.bool true) (by kernel_rfl) (run_lss (k := .i64) (a := i) (b := ss.length) (by kernel_rfl) (by kernel_rfl) true (decide_eq_true (by omega))) ?_
    refine wl_nil ?_
    refine then_at (F := ⟨(.slice (some ⟨pq, 0, none⟩) ss.length c :: .func (.func 40) #[] #[] :: un :: un :: u1 4 :: u1 5 :: .slice (some ⟨pq, 0, none⟩) ss.length c :: iN .i64 ss.length :: iN .i64 i :: .bool true :: u1 10 :: u1 11 :: u1 12 :: u1 13 :: u1 14 :: u1 15 :: u1 16 :: u1 17 :: u1 18 :: List.replicate 0 un).toArray, []⟩) (by kernel_rfl) ?_
    refine wp_seq ?_
    refine wp_cond_true (by kernel_rfl) ?_
    refine wp_skip ?_
    refine then_at (F := ⟨(.slice (some ⟨pq, 0, none⟩) ss.length c :: .func (.func 40) #[] #[] :: un :: un :: u1 4 :: u1 5 :: .slice (some ⟨pq, 0, none⟩) ss.length c :: iN .i64 ss.length :: iN .i64 i :: .bool true :: u1 10 :: u1 11 :: u1 12 :: u1 13 :: u1 14 :: u1 15 :: u1 16 :: u1 17 :: u1 18 :: List.replicate 0 un).toArray, []⟩) (by kernel_rfl) ?_
    refine wp_seq ?_
    refine wp_block ?_
    refine wp_seq ?_
    -- region 3
    refine wl_region ?_
    refine wl_val (iN .i64 i) (by kernel_rfl) (by kernel_rfl) ?_
    refine wl_val (iN .i64 i) (by kernel_rfl) (by kernel_rfl) ?_
    refine wl_nil ?_
    refine then_at (F := ⟨(.slice (some ⟨pq, 0, none⟩) ss.length c :: .func (.func 40) #[] #[] :: un :: un :: u1 4 :: iN .i64 i :: .slice (some ⟨pq, 0, none⟩) ss.length c :: iN .i64 ss.length :: iN .i64 i :: .bool true :: iN .i64 i :: u1 11 :: u1 12 :: u1 13 :: u1 14 :: u1 15 :: u1 16 :: u1 17 :: u1 18 :: List.replicate 0 un).toArray, []⟩) (by kernel_rfl) ?_
    refine wp_seq ?_
    -- region 4
    refine wl_region ?_
    refine wl_val (.func (.func 40) #[] #[]) (by kernel_rfl) (by kernel_rfl) ?_
    refine wl_val (.slice (some ⟨pq, 0, none⟩) ss.length c) (by kernel_rfl) (by kernel_rfl) ?_
    refine wl_val (iN .i64 i) (by kernel_rfl) (by kernel_rfl) ?_
    refine wl_val (.pointer (some ⟨pq, i, none⟩)) (by kernel_rfl) (run_addr_slice (q := pq) (n := ss.length) (m := c) (a := i) Try.underlying48 (fun w => Try.sizeOf9 w) (by kernel_rfl) (by kernel_rfl) (by omega)) ?_
    refine wl_val (.string (ss.getD i ByteArray.empty)) (by kernel_rfl) (run_load1 (fun w => Try.isAgg9 w) (by kernel_rfl) (((hm.keep hT.old.old).cell i).trans (strc_get ss i hk))) ?_
    refine wl_callv (v := .bool false) hT (by kernel_rfl) enter40 #[.string (ss.getD i ByteArray.empty)] (by kernel_rfl) (by kernel_rfl) (isLong_n (ss.getD i ByteArray.empty) (hss i) w2) ?_
    intro w3 h4
    refine wl_nil ?_
    refine then_at (F := ⟨(.slice (some ⟨pq, 0, none⟩) ss.length c :: .func (.func 40) #[] #[] :: un :: un :: u1 4 :: iN .i64 i :: .slice (some ⟨pq, 0, none⟩) ss.length c :: iN .i64 ss.length :: iN .i64 i :: .bool true :: iN .i64 i :: .func (.func 40) #[] #[] :: .slice (some ⟨pq, 0, none⟩) ss.length c :: iN .i64 i :: .pointer (some ⟨pq, i, none⟩) :: .string (ss.getD i ByteArray.empty) :: .bool false :: u1 17 :: u1 18 :: List.replicate 0 un).toArray, []⟩) (by kernel_rfl) ?_
    refine wp_cond_false (by kernel_rfl) ?_
    refine wp_skip ?_
    refine block_normal ?_
    refine then_at (F := ⟨(.slice (some ⟨pq, 0, none⟩) ss.length c :: .func (.func 40) #[] #[] :: un :: un :: u1 4 :: iN .i64 i :: .slice (some ⟨pq, 0, none⟩) ss.length c :: iN .i64 ss.length :: iN .i64 i :: .bool true :: iN .i64 i :: .func (.func 40) #[] #[] :: .slice (some ⟨pq, 0, none⟩) ss.length c :: iN .i64 i :: .pointer (some ⟨pq, i, none⟩) :: .string (ss.getD i ByteArray.empty) :: .bool false :: u1 17 :: u1 18 :: List.replicate 0 un).toArray, []⟩) (by kernel_rfl) ?_
    -- region 6
    refine wl_region ?_
    refine wl_val (iN .i64 (i + 1)) (by kernel_rfl) (run_add (k := .i64) (a := i) (b := 1) (by kernel_rfl) (by kernel_rfl) (by simp only [top]; omega)) ?_
    refine wl_val (iN .i64 (i + 1)) (by kernel_rfl) (by kernel_rfl) ?_
    refine wl_nil ?_
    exact then_I ⟨fun ii => (([(4, u1 4), (5, iN .i64 i), (9, .bool true), (10, iN .i64 i), (11, .func (.func 40) #[] #[]), (12, .slice (some ⟨pq, 0, none⟩) ss.length c), (13, iN .i64 i), (14, .pointer (some ⟨pq, i, none⟩)), (15, .string (ss.getD i ByteArray.empty)), (16, .bool false), (17, u1 17), (18, iN .i64 (i + 1))] : List (Nat × Value)).find? (·.1 == ii)).elim undef (·.2), by kernel_rfl, h4⟩
  · rintro _ w5 ⟨u1, rfl, hT⟩
    refine wp_seq ?_
    -- region 2
    refine wl_region ?_
    refine wl_val (.bool false) (by kernel_rfl) (run_lss (k := .i64) (a := ss.length) (b := ss.length) (by kernel_rfl) (by kernel_rfl) false (decide_eq_false (by omega))) ?_
    refine wl_nil ?_
    refine then_at (F := ⟨(.slice o ss.length c :: .func (.func 40) #[] #[] :: un :: un :: u1 4 :: u1 5 :: .slice o ss.length c :: iN .i64 ss.length :: iN .i64 ss.length :: .bool false :: u1 10 :: u1 11 :: u1 12 :: u1 13 :: u1 14 :: u1 15 :: u1 16 :: u1 17 :: u1 18 :: List.replicate 0 un).toArray, []⟩) (by kernel_rfl) ?_
    refine wp_seq ?_
    refine wp_cond_false (by kernel_rfl) ?_
    refine wp_exit ?_
    repeat first | refine then_exit ?_ | refine block_exit ?_ | refine block_exit_ne (by decide) ?_
    refine then_at (F := ⟨(.slice o ss.length c :: .func (.func 40) #[] #[] :: un :: un :: u1 4 :: u1 5 :: .slice o ss.length c :: iN .i64 ss.length :: iN .i64 ss.length :: .bool false :: u1 10 :: u1 11 :: u1 12 :: u1 13 :: u1 14 :: u1 15 :: u1 16 :: u1 17 :: u1 18 :: List.replicate 0 un).toArray, []⟩) (by kernel_rfl) ?_
    refine wp_seq ?_
    -- region 7
    refine wl_region ?_
    refine wl_val (.int .i64 (-1)) (by kernel_rfl) (by kernel_rfl) ?_
    refine wl_nil ?_
    refine then_at (F := ⟨(.slice o ss.length c :: .func (.func 40) #[] #[] :: un :: un :: .int .i64 (-1) :: u1 5 :: .slice o ss.length c :: iN .i64 ss.length :: iN .i64 ss.length :: .bool false :: u1 10 :: u1 11 :: u1 12 :: u1 13 :: u1 14 :: u1 15 :: u1 16 :: u1 17 :: u1 18 :: List.replicate 0 un).toArray, []⟩) (by kernel_rfl) ?_
    refine wp_ret ?_
    repeat first | refine then_ret ?_ | refine block_ret ?_
    exact bodyPost_ret (v := .int .i64 (-1)) (by kernel_rfl) rfl ⟨rfl, hT.old.old⟩
set_option linter.unusedVariables false in
set_option maxRecDepth 100000 in
set_option maxHeartbeats 2000000 in
theorem cont_no {w : World} (ss : List ByteArray) (o : Option Addr) (c : Nat) (hp : ss = [] ∨ ∃ pq, o = some ⟨pq, 0, none⟩ ∧ Blk w pq 9 (strc ss)) (hss : ∀ i, (ss.getD i ByteArray.empty).size ≤ 65536) (hsl : ss.length ≤ 1000) :
    Calls Try.prog 41 #[.slice o ss.length c, .func (.func 40) #[] #[]] w fun e w' => e = .returned (.bool false) ∧ Below w.heap.size w w' := by
  have H0 := HA.start w
  go_enter Try.func41, Try.ntmps41
  refine wp_seq ?_
  -- region 0
  refine wl_region ?_
  refine wl_val (.bool false) (by kernel_rfl) (by kernel_rfl) ?_
  refine wl_nil ?_
  refine then_at (F := ⟨(.slice o ss.length c :: .func (.func 40) #[] #[] :: un :: un :: .bool false :: List.replicate 4 un).toArray, []⟩) (by kernel_rfl) ?_
  refine wp_seq ?_
  -- region 1
  refine wl_region ?_
  refine wl_val (.slice o ss.length c) (by kernel_rfl) (by kernel_rfl) ?_
  refine wl_val (.func (.func 40) #[] #[]) (by kernel_rfl) (by kernel_rfl) ?_
  refine wl_call (v := .int .i64 (-1)) H0 (by kernel_rfl) enter62 #[.slice o ss.length c, .func (.func 40) #[] #[]] (by kernel_rfl) (idx_no ss o c (hp.imp id (fun ⟨pq, h1, h2⟩ => ⟨pq, h1, h2.keep H0.old.old⟩)) hss hsl) ?_
  intro w1 h2
  refine wl_val (.bool false) (by kernel_rfl) (by kernel_rfl) ?_
  refine wl_val (.bool false) (by kernel_rfl) (by kernel_rfl) ?_
  refine wl_nil ?_
  refine then_at (F := ⟨(.slice o ss.length c :: .func (.func 40) #[] #[] :: un :: un :: .bool false :: .slice o ss.length c :: .func (.func 40) #[] #[] :: .int .i64 (-1) :: .bool false :: List.replicate 0 un).toArray, []⟩) (by kernel_rfl) ?_
  refine wp_ret ?_
  repeat first | refine then_ret ?_ | refine block_ret ?_
  exact bodyPost_ret (v := .bool false) (by kernel_rfl) rfl ⟨rfl, h2.old.old⟩
def lkJ (es : List Ent) (k : Nat) (label : ByteArray) (ss : List ByteArray) : Option Nat := lkR (mks (pfE es ss ss.length) 0) (recOf k (joinN (pfE es ss ss.length) k (pfN es ss ss.length)) (joinS k label) (joinP (pfE es ss ss.length) k (pfN es ss ss.length)))
/-- the term's number, and the table behind it -/
def JO (es : List Ent) (k : Nat) (label : ByteArray) (ss : List ByteArray) (x : Nat) (es' : List Ent) : Prop :=
  (lkJ es k label ss = some x ∧ es' = pfE es ss ss.length) ∨ (lkJ es k label ss = none ∧ x = (pfE es ss ss.length).length ∧ ∃ b, es' = pfE es ss ss.length ++ [.mk k (joinN (pfE es ss ss.length) k (pfN es ss ss.length)) (joinS k label) (joinP (pfE es ss ss.length) k (pfN es ss ss.length)) b])
theorem mks_lt : ∀ (es : List Ent) (i : Nat), ∀ x ∈ mks es i, x.2 < i + es.length
  | [], _, x, hx => by cases hx
  | e :: es, i, x, hx => by
    have ih := mks_lt es (i + 1)
    cases e with
    | mk k n s ps b =>
      rcases List.mem_cons.1 hx with rfl | hx
      · simp
      · have := ih x hx; simp only [List.length_cons]; omega
    | nm n => have := ih x hx; simp only [List.length_cons]; omega
    | dt s => have := ih x hx; simp only [List.length_cons]; omega
theorem JO.lt {es es' : List Ent} {k x : Nat} {label : ByteArray} {ss : List ByteArray} (h : JO es k label ss x es') : x < es'.length ∧ es'.length ≤ es.length + ss.length + 1 := by
  have hl := pfE_len es ss ss.length
  rcases h with ⟨h1, rfl⟩ | ⟨_, rfl, b, rfl⟩
  · unfold lkJ lkR at h1
    obtain ⟨y, hy, rfl⟩ := Option.map_eq_some_iff.1 h1
    have := mks_lt _ 0 y (List.mem_of_find?_eq_some hy)
    omega
  · simp
    omega
theorem join_JO {w0 w : World} {M : ML} {t : Tb} {es : List Ent} {L : BL} (H : TH w0 M t es L w) (hwf : Wf es) (k : Nat) (label : ByteArray) (hlab : label.size ≤ 281474976710656) (ss : List ByteArray) (o : Option Addr) (c : Nat) (hp : ss = [] ∨ ∃ pq, o = some ⟨pq, 0, none⟩ ∧ (pq, 9, strc ss) ∈ L) (hss : ∀ i, (ss.getD i ByteArray.empty).size ≤ 281474976710656) (hsl : ss.length ≤ 100) (hf : es.length < 58000) (h2 : k = 4 → ss.length = 2) :
    Calls Try.prog 42 #[pt t.q, iN .i64 k, .string label, .slice o ss.length c] w fun e w' => ∃ x es', JO es k label ss x es' ∧ e = .returned (.tuple #[iN .i64 x, .bool true]) ∧ TH w0 M t es' L w' := by
  refine (join_any H hwf k label hlab ss o c hp hss hsl hf h2).mono ?_
  rintro e w' (⟨x, h1, h2, h3⟩ | ⟨h1, b, h2, h3⟩)
  · exact ⟨x, _, .inl ⟨h1, rfl⟩, h2, h3⟩
  · exact ⟨_, _, .inr ⟨h1, rfl, b, rfl⟩, h2, h3⟩
set_option linter.unusedVariables false in
set_option maxRecDepth 100000 in
set_option maxHeartbeats 2000000 in
theorem Make_ok {w0 w : World} {M : ML} {t : Tb} {es : List Ent} {L : BL} (H : TH w0 M t es L w) (hwf : Wf es) (k : Nat) (label : ByteArray) (ss : List ByteArray) (o : Option Addr) (cc : Nat) (hp : ss = [] ∨ ∃ pq, o = some ⟨pq, 0, none⟩ ∧ (pq, 9, strc ss) ∈ L) (hf : es.length < 58000) (hmb : mayB k label ss.length = true) (hlab : label.size ≤ 65536) (hss : ∀ i, (ss.getD i ByteArray.empty).size ≤ 65536) (hsl : ss.length ≤ 100) (i2 : k = 4 → ss.length = 2) :
    Calls Try.prog 18 #[pt t.q, iN .i64 k, .string label, .slice o ss.length cc] w fun e w' => ∃ x es', JO es k label ss x es' ∧ e = .returned (.tuple #[.string (txt x), iN .i64 0]) ∧ TH w0 M t es' L w' := by
  obtain ⟨v, Lr, hR, H0⟩ := H
  obtain ⟨p, c, rfl⟩ := hR.form
  go_enter Try.func18, Try.ntmps18
  refine wp_seq ?_
  -- region 0
  refine wl_region ?_
  refine wl_val (.string ({ data := #[] })) (by kernel_rfl) (by kernel_rfl) ?_
  refine wl_val (iN .i64 0) (by kernel_rfl) (by kernel_rfl) ?_
  refine wl_nil ?_
  refine then_at (F := ⟨(pt t.q :: iN .i64 k :: .string label :: .slice o ss.length cc :: un :: un :: un :: un :: .string ({ data := #[] }) :: iN .i64 0 :: List.replicate 40 un).toArray, []⟩) (by kernel_rfl) ?_
  refine wp_seq ?_
  refine wp_block ?_
  refine wp_seq ?_
  -- region 1
  refine wl_region ?_
  refine wl_val (.pointer (some ⟨t.q, 0, none⟩)) (by kernel_rfl) (by kernel_rfl) ?_
  refine wl_call (v := .bool false) H0 (by kernel_rfl) enter36 #[.pointer (some ⟨t.q, 0, none⟩)] (by kernel_rfl) (none_no (H0.get 0 rfl)) ?_
  intro w1 h2
  refine wl_val (.bool false) (by kernel_rfl) (by kernel_rfl) ?_
  refine wl_nil ?_
  refine then_at (F := ⟨(pt t.q :: iN .i64 k :: .string label :: .slice o ss.length cc :: un :: un :: un :: un :: .string ({ data := #[] }) :: iN .i64 0 :: un :: un :: un :: .bool false :: pt t.q :: .bool false :: List.replicate 34 un).toArray, []⟩) (by kernel_rfl) ?_
  refine wp_cond_false (by kernel_rfl) ?_
  refine wp_seq ?_
  -- region 3
  refine wl_region ?_
  refine wl_val (iN .i64 k) (by kernel_rfl) (by kernel_rfl) ?_
  refine wl_val (.string label) (by kernel_rfl) (by kernel_rfl) ?_
  refine wl_val (.slice o ss.length cc) (by kernel_rfl) (by kernel_rfl) ?_
  refine wl_val (iN .i64 ss.length) (by kernel_rfl) (by kernel_rfl) ?_
  refine wl_call (v := .bool true) h2 (by kernel_rfl) enter39 #[iN .i64 k, .string label, iN .i64 ss.length] (by kernel_rfl) (by have := mayBe_any (k : Int) label ss.length w1; rw [hmb] at this; exact this) ?_
  intro w3 h4
  refine wl_val (.bool false) (by kernel_rfl) (by kernel_rfl) ?_
  refine wl_val (.bool false) (by kernel_rfl) (by kernel_rfl) ?_
  refine wl_nil ?_
  refine then_at (F := ⟨(pt t.q :: iN .i64 k :: .string label :: .slice o ss.length cc :: un :: un :: un :: un :: .string ({ data := #[] }) :: iN .i64 0 :: un :: un :: un :: .bool false :: pt t.q :: .bool false :: .bool false :: iN .i64 k :: .string label :: .slice o ss.length cc :: iN .i64 ss.length :: .bool true :: .bool false :: List.replicate 27 un).toArray, []⟩) (by kernel_rfl) ?_
  refine wp_cond_false (by kernel_rfl) ?_
  refine wp_seq ?_
  -- region 5
  refine wl_region ?_
  refine wl_val (.string label) (by kernel_rfl) (by kernel_rfl) ?_
  refine wl_call (v := .bool false) h4 (by kernel_rfl) enter40 #[.string label] (by kernel_rfl) (isLong_n label hlab w3) ?_
  intro w5 h6
  refine wl_val (.bool false) (by kernel_rfl) (by kernel_rfl) ?_
  refine wl_val (.slice o ss.length cc) (by kernel_rfl) (by kernel_rfl) ?_
  refine wl_call (v := .bool false) h6 (by kernel_rfl) enter41 #[.slice o ss.length cc, .func (.func 40) #[] #[]] (by kernel_rfl) (cont_no ss o cc (hp.imp id (fun ⟨pq, j1, j2⟩ => ⟨pq, j1, h6.blk (pq, 9, strc ss) (by simp [j2])⟩)) hss (by omega)) ?_
  intro w7 h8
  refine wl_val (.bool false) (by kernel_rfl) (by kernel_rfl) ?_
  refine wl_val (.bool false) (by kernel_rfl) (by kernel_rfl) ?_
  refine wl_nil ?_
  refine then_at (F := ⟨(pt t.q :: iN .i64 k :: .string label :: .slice o ss.length cc :: un :: un :: un :: un :: .string ({ data := #[] }) :: iN .i64 0 :: un :: un :: un :: .bool false :: pt t.q :: .bool false :: .bool false :: iN .i64 k :: .string label :: .slice o ss.length cc :: iN .i64 ss.length :: .bool true :: .bool false :: .bool false :: .string label :: .bool false :: .bool false :: .slice o ss.length cc :: .bool false :: .bool false :: List.replicate 20 un).toArray, []⟩) (by kernel_rfl) ?_
  refine wp_cond_false (by kernel_rfl) ?_
  refine wp_skip ?_
  refine block_normal ?_
  refine then_at (F := ⟨(pt t.q :: iN .i64 k :: .string label :: .slice o ss.length cc :: un :: un :: un :: un :: .string ({ data := #[] }) :: iN .i64 0 :: un :: un :: un :: .bool false :: pt t.q :: .bool false :: .bool false :: iN .i64 k :: .string label :: .slice o ss.length cc :: iN .i64 ss.length :: .bool true :: .bool false :: .bool false :: .string label :: .bool false :: .bool false :: .slice o ss.length cc :: .bool false :: .bool false :: List.replicate 20 un).toArray, []⟩) (by kernel_rfl) ?_
  refine wp_seq ?_
  -- region 7
  refine wl_region ?_
  refine wl_val (.pointer (some ⟨t.q, 0, none⟩)) (by kernel_rfl) (by kernel_rfl) ?_
  refine wl_val (.pointer (some ⟨t.q, 0, none⟩)) (by kernel_rfl) (by kernel_rfl) ?_
  refine wl_val (.pointer (some ⟨t.q, 0, none⟩)) (by kernel_rfl) (by kernel_rfl) ?_
  refine wl_val (.slice p es.length c) (by kernel_rfl) (run_load1 (fun w => Try.isAgg70 w) (by kernel_rfl) (((h8.get 0 rfl).cell 0).trans rfl)) ?_
  refine wl_val (iN .i64 es.length) (by kernel_rfl) (by kernel_rfl) ?_
  refine wl_val (iN .i64 es.length) (by kernel_rfl) (by kernel_rfl) ?_
  refine wl_nil ?_
  refine then_at (F := ⟨(pt t.q :: iN .i64 k :: .string label :: .slice o ss.length cc :: un :: un :: un :: un :: .string ({ data := #[] }) :: iN .i64 0 :: iN .i64 es.length :: un :: un :: .bool false :: pt t.q :: .bool false :: .bool false :: iN .i64 k :: .string label :: .slice o ss.length cc :: iN .i64 ss.length :: .bool true :: .bool false :: .bool false :: .string label :: .bool false :: .bool false :: .slice o ss.length cc :: .bool false :: .bool false :: pt t.q :: pt t.q :: pt t.q :: .slice p es.length c :: iN .i64 es.length :: List.replicate 15 un).toArray, []⟩) (by kernel_rfl) ?_
  refine wp_seq ?_
  -- region 8
  refine wl_region ?_
  refine wl_val (.pointer (some ⟨t.q, 0, none⟩)) (by kernel_rfl) (by kernel_rfl) ?_
  refine wl_val (iN .i64 k) (by kernel_rfl) (by kernel_rfl) ?_
  refine wl_val (.string label) (by kernel_rfl) (by kernel_rfl) ?_
  refine wl_val (.slice o ss.length cc) (by kernel_rfl) (by kernel_rfl) ?_
  refine wl_callx (by kernel_rfl) enter42 #[.pointer (some ⟨t.q, 0, none⟩), iN .i64 k, .string label, .slice o ss.length cc] (by kernel_rfl) (join_JO ⟨_, _, hR, h8⟩ hwf k label (by omega) ss o cc hp (fun i => by have := hss i; omega) hsl hf i2) ?_
  rintro _ w9 ⟨x1, es1, hJ, rfl, hT1⟩
  refine ⟨_, rfl, ?_⟩
  refine wl_val (.tuple #[iN .i64 x1, .bool true]) (by kernel_rfl) (by kernel_rfl) ?_
  refine wl_val (iN .i64 x1) (by kernel_rfl) (by kernel_rfl) ?_
  refine wl_val (.bool true) (by kernel_rfl) (by kernel_rfl) ?_
  refine wl_val (iN .i64 x1) (by kernel_rfl) (by kernel_rfl) ?_
  refine wl_val (.bool true) (by kernel_rfl) (by kernel_rfl) ?_
  refine wl_nil ?_
  refine then_at (F := ⟨(pt t.q :: iN .i64 k :: .string label :: .slice o ss.length cc :: un :: un :: un :: un :: .string ({ data := #[] }) :: iN .i64 0 :: iN .i64 es.length :: iN .i64 x1 :: .bool true :: .bool false :: pt t.q :: .bool false :: .bool false :: iN .i64 k :: .string label :: .slice o ss.length cc :: iN .i64 ss.length :: .bool true :: .bool false :: .bool false :: .string label :: .bool false :: .bool false :: .slice o ss.length cc :: .bool false :: .bool false :: pt t.q :: pt t.q :: pt t.q :: .slice p es.length c :: iN .i64 es.length :: .tuple #[iN .i64 x1, .bool true] :: pt t.q :: iN .i64 k :: .string label :: .slice o ss.length cc :: .tuple #[iN .i64 x1, .bool true] :: iN .i64 x1 :: .bool true :: List.replicate 7 un).toArray, []⟩) (by kernel_rfl) ?_
  refine wp_seq ?_
  refine wp_seq ?_
  -- region 9
  refine wl_region ?_
  refine wl_val (.bool true) (by kernel_rfl) (by kernel_rfl) ?_
  refine wl_val (.bool false) (by kernel_rfl) (by kernel_rfl) ?_
  refine wl_nil ?_
  refine then_at (F := ⟨(pt t.q :: iN .i64 k :: .string label :: .slice o ss.length cc :: un :: un :: un :: un :: .string ({ data := #[] }) :: iN .i64 0 :: iN .i64 es.length :: iN .i64 x1 :: .bool true :: .bool false :: pt t.q :: .bool false :: .bool false :: iN .i64 k :: .string label :: .slice o ss.length cc :: iN .i64 ss.length :: .bool true :: .bool false :: .bool false :: .string label :: .bool false :: .bool false :: .slice o ss.length cc :: .bool false :: .bool false :: pt t.q :: pt t.q :: pt t.q :: .slice p es.length c :: iN .i64 es.length :: .tuple #[iN .i64 x1, .bool true] :: pt t.q :: iN .i64 k :: .string label :: .slice o ss.length cc :: .tuple #[iN .i64 x1, .bool true] :: iN .i64 x1 :: .bool true :: .bool true :: .bool false :: List.replicate 5 un).toArray, []⟩) (by kernel_rfl) ?_
  refine wp_cond_false (by kernel_rfl) ?_
  refine wp_skip ?_
  refine then_at (F := ⟨(pt t.q :: iN .i64 k :: .string label :: .slice o ss.length cc :: un :: un :: un :: un :: .string ({ data := #[] }) :: iN .i64 0 :: iN .i64 es.length :: iN .i64 x1 :: .bool true :: .bool false :: pt t.q :: .bool false :: .bool false :: iN .i64 k :: .string label :: .slice o ss.length cc :: iN .i64 ss.length :: .bool true :: .bool false :: .bool false :: .string label :: .bool false :: .bool false :: .slice o ss.length cc :: .bool false :: .bool false :: pt t.q :: pt t.q :: pt t.q :: .slice p es.length c :: iN .i64 es.length :: .tuple #[iN .i64 x1, .bool true] :: pt t.q :: iN .i64 k :: .string label :: .slice o ss.length cc :: .tuple #[iN .i64 x1, .bool true] :: iN .i64 x1 :: .bool true :: .bool true :: .bool false :: List.replicate 5 un).toArray, []⟩) (by kernel_rfl) ?_
  refine wp_seq ?_
  -- region 12
  refine wl_region ?_
  refine wl_val (iN .i64 x1) (by kernel_rfl) (by kernel_rfl) ?_
  refine wl_callx (by kernel_rfl) enter38 #[iN .i64 x1] (by kernel_rfl) (textOf_any x1 (by have := hJ.lt; omega) w9) ?_
  rintro _ w11 ⟨rfl, hb10⟩
  refine ⟨_, rfl, ?_⟩
  have hT12 := TH.keep hT1 hb10
  refine wl_val (.string (txt x1)) (by kernel_rfl) (by kernel_rfl) ?_
  refine wl_val (iN .i64 0) (by kernel_rfl) (by kernel_rfl) ?_
  refine wl_nil ?_
  refine then_at (F := ⟨(pt t.q :: iN .i64 k :: .string label :: .slice o ss.length cc :: un :: un :: un :: un :: .string (txt x1) :: iN .i64 0 :: iN .i64 es.length :: iN .i64 x1 :: .bool true :: .bool false :: pt t.q :: .bool false :: .bool false :: iN .i64 k :: .string label :: .slice o ss.length cc :: iN .i64 ss.length :: .bool true :: .bool false :: .bool false :: .string label :: .bool false :: .bool false :: .slice o ss.length cc :: .bool false :: .bool false :: pt t.q :: pt t.q :: pt t.q :: .slice p es.length c :: iN .i64 es.length :: .tuple #[iN .i64 x1, .bool true] :: pt t.q :: iN .i64 k :: .string label :: .slice o ss.length cc :: .tuple #[iN .i64 x1, .bool true] :: iN .i64 x1 :: .bool true :: .bool true :: .bool false :: un :: un :: un :: iN .i64 x1 :: .string (txt x1) :: List.replicate 0 un).toArray, []⟩) (by kernel_rfl) ?_
  refine wp_ret ?_
  repeat first | refine then_ret ?_ | refine block_ret ?_
  exact bodyPost_ret (v := .tuple #[.string (txt x1), iN .i64 0]) (by kernel_rfl) rfl ⟨x1, es1, hJ, rfl, hT12⟩
set_option linter.unusedVariables false in
set_option maxRecDepth 100000 in
set_option maxHeartbeats 2000000 in
theorem Make_arg {w0 w : World} {M : ML} {t : Tb} {es : List Ent} {L : BL} (H : TH w0 M t es L w) (z : Int) (label : ByteArray) (ss : List ByteArray) (o : Option Addr) (cc : Nat) (hmb : mayB z label ss.length = false) :
    Calls Try.prog 18 #[pt t.q, .int .i64 z, .string label, .slice o ss.length cc] w fun e w' => e = .returned (.tuple #[.string { data := #[] }, iN .i64 2]) ∧ TH w0 M t es L w' := by
  obtain ⟨v, Lr, hR, H0⟩ := H
  obtain ⟨p, c, rfl⟩ := hR.form
  go_enter Try.func18, Try.ntmps18
  refine wp_seq ?_
  -- region 0
  refine wl_region ?_
  refine wl_val (.string ({ data := #[] })) (by kernel_rfl) (by kernel_rfl) ?_
  refine wl_val (iN .i64 0) (by kernel_rfl) (by kernel_rfl) ?_
  refine wl_nil ?_
  refine then_at (F := ⟨(pt t.q :: .int .i64 z :: .string label :: .slice o ss.length cc :: un :: un :: un :: un :: .string ({ data := #[] }) :: iN .i64 0 :: List.replicate 40 un).toArray, []⟩) (by kernel_rfl) ?_
  refine wp_seq ?_
  refine wp_block ?_
  refine wp_seq ?_
  -- region 1
  refine wl_region ?_
  refine wl_val (.pointer (some ⟨t.q, 0, none⟩)) (by kernel_rfl) (by kernel_rfl) ?_
  refine wl_call (v := .bool false) H0 (by kernel_rfl) enter36 #[.pointer (some ⟨t.q, 0, none⟩)] (by kernel_rfl) (none_no (H0.get 0 rfl)) ?_
  intro w1 h2
  refine wl_val (.bool false) (by kernel_rfl) (by kernel_rfl) ?_
  refine wl_nil ?_
  refine then_at (F := ⟨(pt t.q :: .int .i64 z :: .string label :: .slice o ss.length cc :: un :: un :: un :: un :: .string ({ data := #[] }) :: iN .i64 0 :: un :: un :: un :: .bool false :: pt t.q :: .bool false :: List.replicate 34 un).toArray, []⟩) (by kernel_rfl) ?_
  refine wp_cond_false (by kernel_rfl) ?_
  refine wp_seq ?_
  -- region 3
  refine wl_region ?_
  refine wl_val (.int .i64 z) (by kernel_rfl) (by kernel_rfl) ?_
  refine wl_val (.string label) (by kernel_rfl) (by kernel_rfl) ?_
  refine wl_val (.slice o ss.length cc) (by kernel_rfl) (by kernel_rfl) ?_
  refine wl_val (iN .i64 ss.length) (by kernel_rfl) (by kernel_rfl) ?_
  refine wl_call (v := .bool false) h2 (by kernel_rfl) enter39 #[.int .i64 z, .string label, iN .i64 ss.length] (by kernel_rfl) (by have := mayBe_any z label ss.length w1; rw [hmb] at this; exact this) ?_
  intro w3 h4
  refine wl_val (.bool true) (by kernel_rfl) (by kernel_rfl) ?_
  refine wl_val (.bool true) (by kernel_rfl) (by kernel_rfl) ?_
  refine wl_nil ?_
  refine then_at (F := ⟨(pt t.q :: .int .i64 z :: .string label :: .slice o ss.length cc :: un :: un :: un :: un :: .string ({ data := #[] }) :: iN .i64 0 :: un :: un :: un :: .bool false :: pt t.q :: .bool false :: .bool true :: .int .i64 z :: .string label :: .slice o ss.length cc :: iN .i64 ss.length :: .bool false :: .bool true :: List.replicate 27 un).toArray, []⟩) (by kernel_rfl) ?_
  refine wp_cond_true (by kernel_rfl) ?_
  refine wp_seq ?_
  -- region 4
  refine wl_region ?_
  refine wl_val (.string ({ data := #[] })) (by kernel_rfl) (by kernel_rfl) ?_
  refine wl_val (iN .i64 2) (by kernel_rfl) (by kernel_rfl) ?_
  refine wl_nil ?_
  refine then_at (F := ⟨(pt t.q :: .int .i64 z :: .string label :: .slice o ss.length cc :: un :: un :: un :: un :: .string ({ data := #[] }) :: iN .i64 2 :: un :: un :: un :: .bool false :: pt t.q :: .bool false :: .bool true :: .int .i64 z :: .string label :: .slice o ss.length cc :: iN .i64 ss.length :: .bool false :: .bool true :: List.replicate 27 un).toArray, []⟩) (by kernel_rfl) ?_
  refine wp_ret ?_
  repeat first | refine then_ret ?_ | refine block_ret ?_
  exact bodyPost_ret (v := .tuple #[.string { data := #[] }, iN .i64 2]) (by kernel_rfl) rfl ⟨rfl, _, _, hR, h4⟩
set_option linter.unusedVariables false in
set_option maxRecDepth 100000 in
set_option maxHeartbeats 2000000 in
theorem Make_nil (z : Int) (label : ByteArray) (v : Value) (w : World) :
    Calls Try.prog 18 #[.pointer none, .int .i64 z, .string label, v] w fun e w' => e = .returned (.tuple #[.string { data := #[] }, iN .i64 1]) ∧ Below w.heap.size w w' := by
  have H0 := HA.start w
  go_enter Try.func18, Try.ntmps18
  refine wp_seq ?_
  -- region 0
  refine wl_region ?_
  refine wl_val (.string ({ data := #[] })) (by kernel_rfl) (by kernel_rfl) ?_
  refine wl_val (iN .i64 0) (by kernel_rfl) (by kernel_rfl) ?_
  refine wl_nil ?_
  refine then_at (F := ⟨(.pointer none :: .int .i64 z :: .string label :: v :: un :: un :: un :: un :: .string ({ data := #[] }) :: iN .i64 0 :: List.replicate 40 un).toArray, []⟩) (by kernel_rfl) ?_
  refine wp_seq ?_
  refine wp_block ?_
  refine wp_seq ?_
  -- region 1
  refine wl_region ?_
  refine wl_val (.pointer none) (by kernel_rfl) (by kernel_rfl) ?_
  refine wl_call (v := .bool true) H0 (by kernel_rfl) enter36 #[.pointer none] (by kernel_rfl) (none_nil w) ?_
  intro w1 h2
  refine wl_val (.bool true) (by kernel_rfl) (by kernel_rfl) ?_
  refine wl_nil ?_
  refine then_at (F := ⟨(.pointer none :: .int .i64 z :: .string label :: v :: un :: un :: un :: un :: .string ({ data := #[] }) :: iN .i64 0 :: un :: un :: un :: .bool true :: .pointer none :: .bool true :: List.replicate 34 un).toArray, []⟩) (by kernel_rfl) ?_
  refine wp_cond_true (by kernel_rfl) ?_
  refine wp_seq ?_
  -- region 2
  refine wl_region ?_
  refine wl_val (.string ({ data := #[] })) (by kernel_rfl) (by kernel_rfl) ?_
  refine wl_val (iN .i64 1) (by kernel_rfl) (by kernel_rfl) ?_
  refine wl_nil ?_
  refine then_at (F := ⟨(.pointer none :: .int .i64 z :: .string label :: v :: un :: un :: un :: un :: .string ({ data := #[] }) :: iN .i64 1 :: un :: un :: un :: .bool true :: .pointer none :: .bool true :: List.replicate 34 un).toArray, []⟩) (by kernel_rfl) ?_
  refine wp_ret ?_
  repeat first | refine then_ret ?_ | refine block_ret ?_
  exact bodyPost_ret (v := .tuple #[.string { data := #[] }, iN .i64 1]) (by kernel_rfl) rfl ⟨rfl, h2.old.old⟩
theorem HA.swapM {w0 w : World} {M : ML} {L : BL} {a b : Nat × Array MapEntry × Nat} (H : HA ⟨w0, a :: b :: M⟩ L w) : HA ⟨w0, b :: a :: M⟩ L w :=
  ⟨⟨H.old.old, fun m hm => H.old.maps m ((List.Perm.swap a b M).subset hm), fun m hm => H.old.mown m ((List.Perm.swap a b M).subset hm), ((List.Perm.swap a b M).map _).nodup_iff.2 H.old.mnd⟩, H.blk, H.own, H.nd⟩
set_option linter.unusedVariables false in
set_option maxRecDepth 100000 in
set_option maxHeartbeats 2000000 in
theorem New_ok {w0 w : World} {M : ML} {L : BL} (H0 : HA ⟨w0, M⟩ L w) :
    Calls Try.prog 16 #[] w fun e w' => ∃ t : Tb, e = .returned (pt t.q) ∧ TH w0 M t [] L w' := by
  go_enter Try.func16, Try.ntmps16
  refine wp_seq ?_
  -- region 0
  refine wl_region ?_
  refine wl_val (.pointer none) (by kernel_rfl) (by kernel_rfl) ?_
  refine wl_nil ?_
  refine then_at (F := ⟨(.pointer none :: List.replicate 4 un).toArray, []⟩) (by kernel_rfl) ?_
  refine wp_seq ?_
  -- region 1
  refine wl_region ?_
  refine wl_newMap H0 (by kernel_rfl) ?_
  intro mb1 w2 (h3 : HA ⟨w0, (mb1, #[], 0) :: M⟩ (L) w2)
  refine wl_newMap h3 (by kernel_rfl) ?_
  intro mb4 w5 (h6 : HA ⟨w0, (mb4, #[], 0) :: (mb1, #[], 0) :: M⟩ (L) w5)
  refine wl_val (.agg #[.slice none 0 0, iN .i64 0, .map (some mb1), .map (some mb4)]) (by kernel_rfl) (by kernel_rfl) ?_
  refine wl_make (c := #[.slice none 0 0, iN .i64 0, .map (some mb1), .map (some mb4)]) h6 74 (by kernel_rfl) (by kernel_rfl) ?_
  intro q7 w8 (h9 : HA ⟨w0, (mb4, #[], 0) :: (mb1, #[], 0) :: M⟩ ((q7, 74, #[.slice none 0 0, iN .i64 0, .map (some mb1), .map (some mb4)]) :: L) w8)
  refine wl_val (.pointer (some ⟨q7, 0, none⟩)) (by kernel_rfl) (by kernel_rfl) ?_
  refine wl_nil ?_
  refine then_at (F := ⟨(pt q7 :: .map (some mb1) :: .map (some mb4) :: .agg #[.slice none 0 0, iN .i64 0, .map (some mb1), .map (some mb4)] :: pt q7 :: List.replicate 0 un).toArray, []⟩) (by kernel_rfl) ?_
  refine wp_ret ?_
  repeat first | refine then_ret ?_ | refine block_ret ?_
  exact bodyPost_ret (v := .pointer (some ⟨q7, 0, none⟩)) (by kernel_rfl) rfl ⟨⟨q7, mb1, mb4⟩, rfl, .slice none 0 0, [], Row.nil 69 1, (HA.swapM h9)⟩
end Go.Proofs.Ytihfeoanognonaa
