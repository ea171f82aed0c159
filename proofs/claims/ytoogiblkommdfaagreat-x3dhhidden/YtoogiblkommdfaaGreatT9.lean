/-
  mayBe, isLong, Make, New.
-/
import Derived.Test.YtoogiblkommdfaaGreatT8
set_option linter.unusedVariables false
namespace Go.Proofs.YtoogiblkommdfaaGreat
open Go.RowKit

theorem run_eqz {ρ : Operand → Value} {x y : Operand} {w : World} {dst : Option Tmp} {T T2 ty : TypeId} {pos : String} {aft : Array Edge} {gd : Option (Nat × Bool)} {P : Program} {k : IntKind} {a : Int} {b : Nat} (hx : ρ x = .int k a) (hy : ρ y = iN k b) (t : Bool) (ht : decide (a = (b : Int)) = t) : (execOp ρ ⟨dst, .binOp .eql T x y T2, ty, pos, aft, gd⟩).run P w = .ok (.value (.bool t)) w := by
  subst ht
  simp only [execOp, hx, hy, iN]
  simp [binOp, go_sem]
  rw [Bool.eq_iff_iff]
  simp
theorem wl_callv {ops : Array Oper} {Q : Exit → Act → World → Prop} {a : Act} {rest : List Oper} {dst : Option Tmp} {ty : TypeId} {pos : String} {aft : Array Edge} {gd : Option (Nat × Bool)} {w : World} {z : Base} {L : BL} {f : FuncId} {x : Operand} {xs : Array Operand} {ats : Array TypeId} {v : Value} (H : HA z L w) (hw : Region.wanted ⟨dst, .call { callee := .value x, args := xs, argTypes := ats }, ty, pos, aft, gd⟩ (yielded ops a.tmps) = true)
    (hr : ∀ args w, (callFunc f args).run Tryz.prog w = .ok (.enter f args) w) (args : Array Value) (hx : a.eval x = .func (.func f) #[] #[]) (ha : #[] ++ xs.map a.eval ++ #[] = args) (hc : Calls Tryz.prog f args w fun e w' => e = .returned v ∧ Below w.heap.size w w')
    (h : ∀ w', HA z L w' → WL Tryz.prog ops Q rest (a.put dst v) w') : WL Tryz.prog ops Q (⟨dst, .call { callee := .value x, args := xs, argTypes := ats }, ty, pos, aft, gd⟩ :: rest) a w := by
  refine ⟨?_⟩
  unfold wpList
  rw [if_pos hw]
  refine .inl ?_
  unfold Oper.wp
  rw [run_callv hr hx ha]
  refine hc.mono ?_
  rintro e w' ⟨rfl, hb⟩
  exact (h _ (H.keep _ _ hb)).out
set_option maxRecDepth 100000 in
set_option maxHeartbeats 2000000 in
theorem mb3_y  (s : ByteArray) (n : Nat) (w : World) (hs : s = { data := #[] }) (hn : n = 1) :
    Calls Tryz.prog 370 #[iN .i64 3, .string s, iN .i64 n] w fun e w' => e = .returned (.bool true) ∧ Below w.heap.size w w' := by
  have H0 := HA.start w
  go_enter Tryz.func370, Tryz.ntmps370
  refine wp_seq (wl_region ?_)
  refine zv (.bool false) ?_
  refine wl_nil (then_at rfl (wp_seq (wp_seq (wl_region ?_))))
  refine zv (iN .i64 3) ?_
  refine wl_nil (then_at rfl (wp_block (wp_seq (wl_region ?_))))
  refine zu (.bool true) (run_eqi (k := .i64) (a := 3) (b := 3) ky ky true (by decide)) ?_
  refine zv (.bool true) ?_
  refine wl_nil (then_at rfl ?_)
  refine wp_cond_true ky ?_
  refine wp_seq (wl_region ?_)
  refine zv (.string s) ?_
  refine zu (.bool true) (run_eqs (s := s) (t := { data := #[] }) ky ky true (decide_eq_true hs)) ?_
  refine zv (.bool true) ?_
  refine zv (iN .i64 n) ?_
  refine zu (.bool true) (run_eqi (k := .i64) (a := n) (b := 1) ky ky true (decide_eq_true hn)) ?_
  refine zv (.bool true) ?_
  refine zv (.bool true) ?_
  refine wl_nil (then_at rfl ?_)
  refine wp_ret ?_
  repeat first | refine then_ret ?_ | refine block_ret ?_
  exact bodyPost_ret (v := .bool true) ky rfl ⟨rfl, H0.old.old⟩
set_option maxRecDepth 100000 in
set_option maxHeartbeats 2000000 in
theorem mb3_n  (s : ByteArray) (n : Nat) (w : World) (hs : s = { data := #[] }) (hn : ¬ n = 1) :
    Calls Tryz.prog 370 #[iN .i64 3, .string s, iN .i64 n] w fun e w' => e = .returned (.bool false) ∧ Below w.heap.size w w' := by
  have H0 := HA.start w
  go_enter Tryz.func370, Tryz.ntmps370
  refine wp_seq (wl_region ?_)
  refine zv (.bool false) ?_
  refine wl_nil (then_at rfl (wp_seq (wp_seq (wl_region ?_))))
  refine zv (iN .i64 3) ?_
  refine wl_nil (then_at rfl (wp_block (wp_seq (wl_region ?_))))
  refine zu (.bool true) (run_eqi (k := .i64) (a := 3) (b := 3) ky ky true (by decide)) ?_
  refine zv (.bool true) ?_
  refine wl_nil (then_at rfl ?_)
  refine wp_cond_true ky ?_
  refine wp_seq (wl_region ?_)
  refine zv (.string s) ?_
  refine zu (.bool true) (run_eqs (s := s) (t := { data := #[] }) ky ky true (decide_eq_true hs)) ?_
  refine zv (.bool true) ?_
  refine zv (iN .i64 n) ?_
  refine zu (.bool false) (run_eqi (k := .i64) (a := n) (b := 1) ky ky false (decide_eq_false hn)) ?_
  refine zv (.bool false) ?_
  refine zv (.bool false) ?_
  refine wl_nil (then_at rfl ?_)
  refine wp_ret ?_
  repeat first | refine then_ret ?_ | refine block_ret ?_
  exact bodyPost_ret (v := .bool false) ky rfl ⟨rfl, H0.old.old⟩
set_option maxRecDepth 100000 in
set_option maxHeartbeats 2000000 in
theorem mb3_s  (s : ByteArray) (n : Nat) (w : World) (hs : s ≠ { data := #[] }) :
    Calls Tryz.prog 370 #[iN .i64 3, .string s, iN .i64 n] w fun e w' => e = .returned (.bool false) ∧ Below w.heap.size w w' := by
  have H0 := HA.start w
  go_enter Tryz.func370, Tryz.ntmps370
  refine wp_seq (wl_region ?_)
  refine zv (.bool false) ?_
  refine wl_nil (then_at rfl (wp_seq (wp_seq (wl_region ?_))))
  refine zv (iN .i64 3) ?_
  refine wl_nil (then_at rfl (wp_block (wp_seq (wl_region ?_))))
  refine zu (.bool true) (run_eqi (k := .i64) (a := 3) (b := 3) ky ky true (by decide)) ?_
  refine zv (.bool true) ?_
  refine wl_nil (then_at rfl ?_)
  refine wp_cond_true ky ?_
  refine wp_seq (wl_region ?_)
  refine zv (.string s) ?_
  refine zu (.bool false) (run_eqs (s := s) (t := { data := #[] }) ky ky false (decide_eq_false hs)) ?_
  refine zv (.bool false) ?_
  refine wl_skip ky ?_
  refine wl_skip ky ?_
  refine zv (.bool false) ?_
  refine zv (.bool false) ?_
  refine wl_nil (then_at rfl ?_)
  refine wp_ret ?_
  repeat first | refine then_ret ?_ | refine block_ret ?_
  exact bodyPost_ret (v := .bool false) ky rfl ⟨rfl, H0.old.old⟩
set_option maxRecDepth 100000 in
set_option maxHeartbeats 2000000 in
theorem mb4_y  (s : ByteArray) (n : Nat) (w : World) (hs : s = { data := #[] }) (hn : n = 2) :
    Calls Tryz.prog 370 #[iN .i64 4, .string s, iN .i64 n] w fun e w' => e = .returned (.bool true) ∧ Below w.heap.size w w' := by
  have H0 := HA.start w
  go_enter Tryz.func370, Tryz.ntmps370
  refine wp_seq (wl_region ?_)
  refine zv (.bool false) ?_
  refine wl_nil (then_at rfl (wp_seq (wp_seq (wl_region ?_))))
  refine zv (iN .i64 4) ?_
  refine wl_nil (then_at rfl (wp_block (wp_seq (wl_region ?_))))
  refine zu (.bool false) (run_eqi (k := .i64) (a := 4) (b := 3) ky ky false (by decide)) ?_
  refine zv (.bool false) ?_
  refine wl_nil (then_at rfl ?_)
  refine wp_cond_false ky ?_
  refine wp_seq (wp_seq (wl_region ?_))
  refine zu (.bool true) (run_eqi (k := .i64) (a := 4) (b := 4) ky ky true (by decide)) ?_
  refine zv (.bool true) ?_
  refine wl_nil (then_at rfl ?_)
  refine wp_cond_true ky ?_
  refine wp_skip (then_at rfl ?_)
  refine wp_cond_true ky ?_
  refine wp_seq (wl_region ?_)
  refine zv (.string s) ?_
  refine zu (.bool true) (run_eqs (s := s) (t := { data := #[] }) ky ky true (decide_eq_true hs)) ?_
  refine zv (.bool true) ?_
  refine zv (iN .i64 n) ?_
  refine zu (.bool true) (run_eqi (k := .i64) (a := n) (b := 2) ky ky true (decide_eq_true hn)) ?_
  refine zv (.bool true) ?_
  refine zv (.bool true) ?_
  refine wl_nil (then_at rfl ?_)
  refine wp_ret ?_
  repeat first | refine then_ret ?_ | refine block_ret ?_
  exact bodyPost_ret (v := .bool true) ky rfl ⟨rfl, H0.old.old⟩
set_option maxRecDepth 100000 in
set_option maxHeartbeats 2000000 in
theorem mb4_n  (s : ByteArray) (n : Nat) (w : World) (hs : s = { data := #[] }) (hn : ¬ n = 2) :
    Calls Tryz.prog 370 #[iN .i64 4, .string s, iN .i64 n] w fun e w' => e = .returned (.bool false) ∧ Below w.heap.size w w' := by
  have H0 := HA.start w
  go_enter Tryz.func370, Tryz.ntmps370
  refine wp_seq (wl_region ?_)
  refine zv (.bool false) ?_
  refine wl_nil (then_at rfl (wp_seq (wp_seq (wl_region ?_))))
  refine zv (iN .i64 4) ?_
  refine wl_nil (then_at rfl (wp_block (wp_seq (wl_region ?_))))
  refine zu (.bool false) (run_eqi (k := .i64) (a := 4) (b := 3) ky ky false (by decide)) ?_
  refine zv (.bool false) ?_
  refine wl_nil (then_at rfl ?_)
  refine wp_cond_false ky ?_
  refine wp_seq (wp_seq (wl_region ?_))
  refine zu (.bool true) (run_eqi (k := .i64) (a := 4) (b := 4) ky ky true (by decide)) ?_
  refine zv (.bool true) ?_
  refine wl_nil (then_at rfl ?_)
  refine wp_cond_true ky ?_
  refine wp_skip (then_at rfl ?_)
  refine wp_cond_true ky ?_
  refine wp_seq (wl_region ?_)
  refine zv (.string s) ?_
  refine zu (.bool true) (run_eqs (s := s) (t := { data := #[] }) ky ky true (decide_eq_true hs)) ?_
  refine zv (.bool true) ?_
  refine zv (iN .i64 n) ?_
  refine zu (.bool false) (run_eqi (k := .i64) (a := n) (b := 2) ky ky false (decide_eq_false hn)) ?_
  refine zv (.bool false) ?_
  refine zv (.bool false) ?_
  refine wl_nil (then_at rfl ?_)
  refine wp_ret ?_
  repeat first | refine then_ret ?_ | refine block_ret ?_
  exact bodyPost_ret (v := .bool false) ky rfl ⟨rfl, H0.old.old⟩
set_option maxRecDepth 100000 in
set_option maxHeartbeats 2000000 in
theorem mb4_s  (s : ByteArray) (n : Nat) (w : World) (hs : s ≠ { data := #[] }) :
    Calls Tryz.prog 370 #[iN .i64 4, .string s, iN .i64 n] w fun e w' => e = .returned (.bool false) ∧ Below w.heap.size w w' := by
  have H0 := HA.start w
  go_enter Tryz.func370, Tryz.ntmps370
  refine wp_seq (wl_region ?_)
  refine zv (.bool false) ?_
  refine wl_nil (then_at rfl (wp_seq (wp_seq (wl_region ?_))))
  refine zv (iN .i64 4) ?_
  refine wl_nil (then_at rfl (wp_block (wp_seq (wl_region ?_))))
  refine zu (.bool false) (run_eqi (k := .i64) (a := 4) (b := 3) ky ky false (by decide)) ?_
  refine zv (.bool false) ?_
  refine wl_nil (then_at rfl ?_)
  refine wp_cond_false ky ?_
  refine wp_seq (wp_seq (wl_region ?_))
  refine zu (.bool true) (run_eqi (k := .i64) (a := 4) (b := 4) ky ky true (by decide)) ?_
  refine zv (.bool true) ?_
  refine wl_nil (then_at rfl ?_)
  refine wp_cond_true ky ?_
  refine wp_skip (then_at rfl ?_)
  refine wp_cond_true ky ?_
  refine wp_seq (wl_region ?_)
  refine zv (.string s) ?_
  refine zu (.bool false) (run_eqs (s := s) (t := { data := #[] }) ky ky false (decide_eq_false hs)) ?_
  refine zv (.bool false) ?_
  refine wl_skip ky ?_
  refine wl_skip ky ?_
  refine zv (.bool false) ?_
  refine zv (.bool false) ?_
  refine wl_nil (then_at rfl ?_)
  refine wp_ret ?_
  repeat first | refine then_ret ?_ | refine block_ret ?_
  exact bodyPost_ret (v := .bool false) ky rfl ⟨rfl, H0.old.old⟩
set_option maxRecDepth 100000 in
set_option maxHeartbeats 2000000 in
theorem mb7_y  (s : ByteArray) (n : Nat) (w : World) (hs : s = { data := #[] }) (hn : n = 2) :
    Calls Tryz.prog 370 #[iN .i64 7, .string s, iN .i64 n] w fun e w' => e = .returned (.bool true) ∧ Below w.heap.size w w' := by
  have H0 := HA.start w
  go_enter Tryz.func370, Tryz.ntmps370
  refine wp_seq (wl_region ?_)
  refine zv (.bool false) ?_
  refine wl_nil (then_at rfl (wp_seq (wp_seq (wl_region ?_))))
  refine zv (iN .i64 7) ?_
  refine wl_nil (then_at rfl (wp_block (wp_seq (wl_region ?_))))
  refine zu (.bool false) (run_eqi (k := .i64) (a := 7) (b := 3) ky ky false (by decide)) ?_
  refine zv (.bool false) ?_
  refine wl_nil (then_at rfl ?_)
  refine wp_cond_false ky ?_
  refine wp_seq (wp_seq (wl_region ?_))
  refine zu (.bool false) (run_eqi (k := .i64) (a := 7) (b := 4) ky ky false (by decide)) ?_
  refine zv (.bool false) ?_
  refine wl_nil (then_at rfl ?_)
  refine wp_cond_false ky ?_
  refine wl_region ?_
  refine zu (.bool true) (run_eqi (k := .i64) (a := 7) (b := 7) ky ky true (by decide)) ?_
  refine zv (.bool true) ?_
  refine wl_nil (then_at rfl ?_)
  refine wp_cond_true ky ?_
  refine wp_seq (wl_region ?_)
  refine zv (.string s) ?_
  refine zu (.bool true) (run_eqs (s := s) (t := { data := #[] }) ky ky true (decide_eq_true hs)) ?_
  refine zv (.bool true) ?_
  refine zv (iN .i64 n) ?_
  refine zu (.bool true) (run_eqi (k := .i64) (a := n) (b := 2) ky ky true (decide_eq_true hn)) ?_
  refine zv (.bool true) ?_
  refine zv (.bool true) ?_
  refine wl_nil (then_at rfl ?_)
  refine wp_ret ?_
  repeat first | refine then_ret ?_ | refine block_ret ?_
  exact bodyPost_ret (v := .bool true) ky rfl ⟨rfl, H0.old.old⟩
set_option maxRecDepth 100000 in
set_option maxHeartbeats 2000000 in
theorem mb7_n  (s : ByteArray) (n : Nat) (w : World) (hs : s = { data := #[] }) (hn : ¬ n = 2) :
    Calls Tryz.prog 370 #[iN .i64 7, .string s, iN .i64 n] w fun e w' => e = .returned (.bool false) ∧ Below w.heap.size w w' := by
  have H0 := HA.start w
  go_enter Tryz.func370, Tryz.ntmps370
  refine wp_seq (wl_region ?_)
  refine zv (.bool false) ?_
  refine wl_nil (then_at rfl (wp_seq (wp_seq (wl_region ?_))))
  refine zv (iN .i64 7) ?_
  refine wl_nil (then_at rfl (wp_block (wp_seq (wl_region ?_))))
  refine zu (.bool false) (run_eqi (k := .i64) (a := 7) (b := 3) ky ky false (by decide)) ?_
  refine zv (.bool false) ?_
  refine wl_nil (then_at rfl ?_)
  refine wp_cond_false ky ?_
  refine wp_seq (wp_seq (wl_region ?_))
  refine zu (.bool false) (run_eqi (k := .i64) (a := 7) (b := 4) ky ky false (by decide)) ?_
  refine zv (.bool false) ?_
  refine wl_nil (then_at rfl ?_)
  refine wp_cond_false ky ?_
  refine wl_region ?_
  refine zu (.bool true) (run_eqi (k := .i64) (a := 7) (b := 7) ky ky true (by decide)) ?_
  refine zv (.bool true) ?_
  refine wl_nil (then_at rfl ?_)
  refine wp_cond_true ky ?_
  refine wp_seq (wl_region ?_)
  refine zv (.string s) ?_
  refine zu (.bool true) (run_eqs (s := s) (t := { data := #[] }) ky ky true (decide_eq_true hs)) ?_
  refine zv (.bool true) ?_
  refine zv (iN .i64 n) ?_
  refine zu (.bool false) (run_eqi (k := .i64) (a := n) (b := 2) ky ky false (decide_eq_false hn)) ?_
  refine zv (.bool false) ?_
  refine zv (.bool false) ?_
  refine wl_nil (then_at rfl ?_)
  refine wp_ret ?_
  repeat first | refine then_ret ?_ | refine block_ret ?_
  exact bodyPost_ret (v := .bool false) ky rfl ⟨rfl, H0.old.old⟩
set_option maxRecDepth 100000 in
set_option maxHeartbeats 2000000 in
theorem mb7_s  (s : ByteArray) (n : Nat) (w : World) (hs : s ≠ { data := #[] }) :
    Calls Tryz.prog 370 #[iN .i64 7, .string s, iN .i64 n] w fun e w' => e = .returned (.bool false) ∧ Below w.heap.size w w' := by
  have H0 := HA.start w
  go_enter Tryz.func370, Tryz.ntmps370
  refine wp_seq (wl_region ?_)
  refine zv (.bool false) ?_
  refine wl_nil (then_at rfl (wp_seq (wp_seq (wl_region ?_))))
  refine zv (iN .i64 7) ?_
  refine wl_nil (then_at rfl (wp_block (wp_seq (wl_region ?_))))
  refine zu (.bool false) (run_eqi (k := .i64) (a := 7) (b := 3) ky ky false (by decide)) ?_
  refine zv (.bool false) ?_
  refine wl_nil (then_at rfl ?_)
  refine wp_cond_false ky ?_
  refine wp_seq (wp_seq (wl_region ?_))
  refine zu (.bool false) (run_eqi (k := .i64) (a := 7) (b := 4) ky ky false (by decide)) ?_
  refine zv (.bool false) ?_
  refine wl_nil (then_at rfl ?_)
  refine wp_cond_false ky ?_
  refine wl_region ?_
  refine zu (.bool true) (run_eqi (k := .i64) (a := 7) (b := 7) ky ky true (by decide)) ?_
  refine zv (.bool true) ?_
  refine wl_nil (then_at rfl ?_)
  refine wp_cond_true ky ?_
  refine wp_seq (wl_region ?_)
  refine zv (.string s) ?_
  refine zu (.bool false) (run_eqs (s := s) (t := { data := #[] }) ky ky false (decide_eq_false hs)) ?_
  refine zv (.bool false) ?_
  refine wl_skip ky ?_
  refine wl_skip ky ?_
  refine zv (.bool false) ?_
  refine zv (.bool false) ?_
  refine wl_nil (then_at rfl ?_)
  refine wp_ret ?_
  repeat first | refine then_ret ?_ | refine block_ret ?_
  exact bodyPost_ret (v := .bool false) ky rfl ⟨rfl, H0.old.old⟩
set_option maxRecDepth 100000 in
set_option maxHeartbeats 2000000 in
theorem mb6_y  (s : ByteArray) (n : Nat) (w : World) (hs : s = { data := #[] }) (hn : n = 4) :
    Calls Tryz.prog 370 #[iN .i64 6, .string s, iN .i64 n] w fun e w' => e = .returned (.bool true) ∧ Below w.heap.size w w' := by
  have H0 := HA.start w
  go_enter Tryz.func370, Tryz.ntmps370
  refine wp_seq (wl_region ?_)
  refine zv (.bool false) ?_
  refine wl_nil (then_at rfl (wp_seq (wp_seq (wl_region ?_))))
  refine zv (iN .i64 6) ?_
  refine wl_nil (then_at rfl (wp_block (wp_seq (wl_region ?_))))
  refine zu (.bool false) (run_eqi (k := .i64) (a := 6) (b := 3) ky ky false (by decide)) ?_
  refine zv (.bool false) ?_
  refine wl_nil (then_at rfl ?_)
  refine wp_cond_false ky ?_
  refine wp_seq (wp_seq (wl_region ?_))
  refine zu (.bool false) (run_eqi (k := .i64) (a := 6) (b := 4) ky ky false (by decide)) ?_
  refine zv (.bool false) ?_
  refine wl_nil (then_at rfl ?_)
  refine wp_cond_false ky ?_
  refine wl_region ?_
  refine zu (.bool false) (run_eqi (k := .i64) (a := 6) (b := 7) ky ky false (by decide)) ?_
  refine zv (.bool false) ?_
  refine wl_nil (then_at rfl ?_)
  refine wp_cond_false ky ?_
  refine wp_seq (wl_region ?_)
  refine zu (.bool true) (run_eqi (k := .i64) (a := 6) (b := 6) ky ky true (by decide)) ?_
  refine zv (.bool true) ?_
  refine wl_nil (then_at rfl ?_)
  refine wp_cond_true ky ?_
  refine wp_seq (wl_region ?_)
  refine zv (.string s) ?_
  refine zu (.bool true) (run_eqs (s := s) (t := { data := #[] }) ky ky true (decide_eq_true hs)) ?_
  refine zv (.bool true) ?_
  refine zv (iN .i64 n) ?_
  refine zu (.bool true) (run_eqi (k := .i64) (a := n) (b := 4) ky ky true (decide_eq_true hn)) ?_
  refine zv (.bool true) ?_
  refine zv (.bool true) ?_
  refine wl_nil (then_at rfl ?_)
  refine wp_ret ?_
  repeat first | refine then_ret ?_ | refine block_ret ?_
  exact bodyPost_ret (v := .bool true) ky rfl ⟨rfl, H0.old.old⟩
set_option maxRecDepth 100000 in
set_option maxHeartbeats 2000000 in
theorem mb6_n  (s : ByteArray) (n : Nat) (w : World) (hs : s = { data := #[] }) (hn : ¬ n = 4) :
    Calls Tryz.prog 370 #[iN .i64 6, .string s, iN .i64 n] w fun e w' => e = .returned (.bool false) ∧ Below w.heap.size w w' := by
  have H0 := HA.start w
  go_enter Tryz.func370, Tryz.ntmps370
  refine wp_seq (wl_region ?_)
  refine zv (.bool false) ?_
  refine wl_nil (then_at rfl (wp_seq (wp_seq (wl_region ?_))))
  refine zv (iN .i64 6) ?_
  refine wl_nil (then_at rfl (wp_block (wp_seq (wl_region ?_))))
  refine zu (.bool false) (run_eqi (k := .i64) (a := 6) (b := 3) ky ky false (by decide)) ?_
  refine zv (.bool false) ?_
  refine wl_nil (then_at rfl ?_)
  refine wp_cond_false ky ?_
  refine wp_seq (wp_seq (wl_region ?_))
  refine zu (.bool false) (run_eqi (k := .i64) (a := 6) (b := 4) ky ky false (by decide)) ?_
  refine zv (.bool false) ?_
  refine wl_nil (then_at rfl ?_)
  refine wp_cond_false ky ?_
  refine wl_region ?_
  refine zu (.bool false) (run_eqi (k := .i64) (a := 6) (b := 7) ky ky false (by decide)) ?_
  refine zv (.bool false) ?_
  refine wl_nil (then_at rfl ?_)
  refine wp_cond_false ky ?_
  refine wp_seq (wl_region ?_)
  refine zu (.bool true) (run_eqi (k := .i64) (a := 6) (b := 6) ky ky true (by decide)) ?_
  refine zv (.bool true) ?_
  refine wl_nil (then_at rfl ?_)
  refine wp_cond_true ky ?_
  refine wp_seq (wl_region ?_)
  refine zv (.string s) ?_
  refine zu (.bool true) (run_eqs (s := s) (t := { data := #[] }) ky ky true (decide_eq_true hs)) ?_
  refine zv (.bool true) ?_
  refine zv (iN .i64 n) ?_
  refine zu (.bool false) (run_eqi (k := .i64) (a := n) (b := 4) ky ky false (decide_eq_false hn)) ?_
  refine zv (.bool false) ?_
  refine zv (.bool false) ?_
  refine wl_nil (then_at rfl ?_)
  refine wp_ret ?_
  repeat first | refine then_ret ?_ | refine block_ret ?_
  exact bodyPost_ret (v := .bool false) ky rfl ⟨rfl, H0.old.old⟩
set_option maxRecDepth 100000 in
set_option maxHeartbeats 2000000 in
theorem mb6_s  (s : ByteArray) (n : Nat) (w : World) (hs : s ≠ { data := #[] }) :
    Calls Tryz.prog 370 #[iN .i64 6, .string s, iN .i64 n] w fun e w' => e = .returned (.bool false) ∧ Below w.heap.size w w' := by
  have H0 := HA.start w
  go_enter Tryz.func370, Tryz.ntmps370
  refine wp_seq (wl_region ?_)
  refine zv (.bool false) ?_
  refine wl_nil (then_at rfl (wp_seq (wp_seq (wl_region ?_))))
  refine zv (iN .i64 6) ?_
  refine wl_nil (then_at rfl (wp_block (wp_seq (wl_region ?_))))
  refine zu (.bool false) (run_eqi (k := .i64) (a := 6) (b := 3) ky ky false (by decide)) ?_
  refine zv (.bool false) ?_
  refine wl_nil (then_at rfl ?_)
  refine wp_cond_false ky ?_
  refine wp_seq (wp_seq (wl_region ?_))
  refine zu (.bool false) (run_eqi (k := .i64) (a := 6) (b := 4) ky ky false (by decide)) ?_
  refine zv (.bool false) ?_
  refine wl_nil (then_at rfl ?_)
  refine wp_cond_false ky ?_
  refine wl_region ?_
  refine zu (.bool false) (run_eqi (k := .i64) (a := 6) (b := 7) ky ky false (by decide)) ?_
  refine zv (.bool false) ?_
  refine wl_nil (then_at rfl ?_)
  refine wp_cond_false ky ?_
  refine wp_seq (wl_region ?_)
  refine zu (.bool true) (run_eqi (k := .i64) (a := 6) (b := 6) ky ky true (by decide)) ?_
  refine zv (.bool true) ?_
  refine wl_nil (then_at rfl ?_)
  refine wp_cond_true ky ?_
  refine wp_seq (wl_region ?_)
  refine zv (.string s) ?_
  refine zu (.bool false) (run_eqs (s := s) (t := { data := #[] }) ky ky false (decide_eq_false hs)) ?_
  refine zv (.bool false) ?_
  refine wl_skip ky ?_
  refine wl_skip ky ?_
  refine zv (.bool false) ?_
  refine zv (.bool false) ?_
  refine wl_nil (then_at rfl ?_)
  refine wp_ret ?_
  repeat first | refine then_ret ?_ | refine block_ret ?_
  exact bodyPost_ret (v := .bool false) ky rfl ⟨rfl, H0.old.old⟩
set_option maxRecDepth 100000 in
set_option maxHeartbeats 2000000 in
theorem mb5_y  (s : ByteArray) (n : Nat) (w : World) (hn : n ≤ 100) :
    Calls Tryz.prog 370 #[iN .i64 5, .string s, iN .i64 n] w fun e w' => e = .returned (.bool true) ∧ Below w.heap.size w w' := by
  have H0 := HA.start w
  go_enter Tryz.func370, Tryz.ntmps370
  refine wp_seq (wl_region ?_)
  refine zv (.bool false) ?_
  refine wl_nil (then_at rfl (wp_seq (wp_seq (wl_region ?_))))
  refine zv (iN .i64 5) ?_
  refine wl_nil (then_at rfl (wp_block (wp_seq (wl_region ?_))))
  refine zu (.bool false) (run_eqi (k := .i64) (a := 5) (b := 3) ky ky false (by decide)) ?_
  refine zv (.bool false) ?_
  refine wl_nil (then_at rfl ?_)
  refine wp_cond_false ky ?_
  refine wp_seq (wp_seq (wl_region ?_))
  refine zu (.bool false) (run_eqi (k := .i64) (a := 5) (b := 4) ky ky false (by decide)) ?_
  refine zv (.bool false) ?_
  refine wl_nil (then_at rfl ?_)
  refine wp_cond_false ky ?_
  refine wl_region ?_
  refine zu (.bool false) (run_eqi (k := .i64) (a := 5) (b := 7) ky ky false (by decide)) ?_
  refine zv (.bool false) ?_
  refine wl_nil (then_at rfl ?_)
  refine wp_cond_false ky ?_
  refine wp_seq (wl_region ?_)
  refine zu (.bool false) (run_eqi (k := .i64) (a := 5) (b := 6) ky ky false (by decide)) ?_
  refine zv (.bool false) ?_
  refine wl_nil (then_at rfl ?_)
  refine wp_cond_false ky ?_
  refine wp_seq (wl_region ?_)
  refine zu (.bool true) (run_eqi (k := .i64) (a := 5) (b := 5) ky ky true (by decide)) ?_
  refine zv (.bool true) ?_
  refine wl_nil (then_at rfl ?_)
  refine wp_cond_true ky ?_
  refine wp_seq (wl_region ?_)
  refine zv (iN .i64 n) ?_
  refine zu (.bool true) (run_leq (k := .i64) (a := n) (b := 100) ky ky true (decide_eq_true hn)) ?_
  refine zv (.bool true) ?_
  refine wl_nil (then_at rfl ?_)
  refine wp_ret ?_
  repeat first | refine then_ret ?_ | refine block_ret ?_
  exact bodyPost_ret (v := .bool true) ky rfl ⟨rfl, H0.old.old⟩
set_option maxRecDepth 100000 in
set_option maxHeartbeats 2000000 in
theorem mb5_n  (s : ByteArray) (n : Nat) (w : World) (hn : ¬ n ≤ 100) :
    Calls Tryz.prog 370 #[iN .i64 5, .string s, iN .i64 n] w fun e w' => e = .returned (.bool false) ∧ Below w.heap.size w w' := by
  have H0 := HA.start w
  go_enter Tryz.func370, Tryz.ntmps370
  refine wp_seq (wl_region ?_)
  refine zv (.bool false) ?_
  refine wl_nil (then_at rfl (wp_seq (wp_seq (wl_region ?_))))
  refine zv (iN .i64 5) ?_
  refine wl_nil (then_at rfl (wp_block (wp_seq (wl_region ?_))))
  refine zu (.bool false) (run_eqi (k := .i64) (a := 5) (b := 3) ky ky false (by decide)) ?_
  refine zv (.bool false) ?_
  refine wl_nil (then_at rfl ?_)
  refine wp_cond_false ky ?_
  refine wp_seq (wp_seq (wl_region ?_))
  refine zu (.bool false) (run_eqi (k := .i64) (a := 5) (b := 4) ky ky false (by decide)) ?_
  refine zv (.bool false) ?_
  refine wl_nil (then_at rfl ?_)
  refine wp_cond_false ky ?_
  refine wl_region ?_
  refine zu (.bool false) (run_eqi (k := .i64) (a := 5) (b := 7) ky ky false (by decide)) ?_
  refine zv (.bool false) ?_
  refine wl_nil (then_at rfl ?_)
  refine wp_cond_false ky ?_
  refine wp_seq (wl_region ?_)
  refine zu (.bool false) (run_eqi (k := .i64) (a := 5) (b := 6) ky ky false (by decide)) ?_
  refine zv (.bool false) ?_
  refine wl_nil (then_at rfl ?_)
  refine wp_cond_false ky ?_
  refine wp_seq (wl_region ?_)
  refine zu (.bool true) (run_eqi (k := .i64) (a := 5) (b := 5) ky ky true (by decide)) ?_
  refine zv (.bool true) ?_
  refine wl_nil (then_at rfl ?_)
  refine wp_cond_true ky ?_
  refine wp_seq (wl_region ?_)
  refine zv (iN .i64 n) ?_
  refine zu (.bool false) (run_leq (k := .i64) (a := n) (b := 100) ky ky false (decide_eq_false hn)) ?_
  refine zv (.bool false) ?_
  refine wl_nil (then_at rfl ?_)
  refine wp_ret ?_
  repeat first | refine then_ret ?_ | refine block_ret ?_
  exact bodyPost_ret (v := .bool false) ky rfl ⟨rfl, H0.old.old⟩
set_option maxRecDepth 100000 in
set_option maxHeartbeats 2000000 in
theorem mb_o (z : Int) (hz : z ≠ 3 ∧ z ≠ 4 ∧ z ≠ 5 ∧ z ≠ 6 ∧ z ≠ 7) (s : ByteArray) (n : Nat) (w : World) :
    Calls Tryz.prog 370 #[.int .i64 z, .string s, iN .i64 n] w fun e w' => e = .returned (.bool false) ∧ Below w.heap.size w w' := by
  have H0 := HA.start w
  go_enter Tryz.func370, Tryz.ntmps370
  refine wp_seq (wl_region ?_)
  refine zv (.bool false) ?_
  refine wl_nil (then_at rfl (wp_seq (wp_seq (wl_region ?_))))
  refine zv (.int .i64 z) ?_
  refine wl_nil (then_at rfl (wp_block (wp_seq (wl_region ?_))))
  refine zu (.bool false) (run_eqz (k := .i64) (a := z) (b := 3) ky ky false (decide_eq_false (by omega))) ?_
  refine zv (.bool false) ?_
  refine wl_nil (then_at rfl ?_)
  refine wp_cond_false ky ?_
  refine wp_seq (wp_seq (wl_region ?_))
  refine zu (.bool false) (run_eqz (k := .i64) (a := z) (b := 4) ky ky false (decide_eq_false (by omega))) ?_
  refine zv (.bool false) ?_
  refine wl_nil (then_at rfl ?_)
  refine wp_cond_false ky ?_
  refine wl_region ?_
  refine zu (.bool false) (run_eqz (k := .i64) (a := z) (b := 7) ky ky false (decide_eq_false (by omega))) ?_
  refine zv (.bool false) ?_
  refine wl_nil (then_at rfl ?_)
  refine wp_cond_false ky ?_
  refine wp_seq (wl_region ?_)
  refine zu (.bool false) (run_eqz (k := .i64) (a := z) (b := 6) ky ky false (decide_eq_false (by omega))) ?_
  refine zv (.bool false) ?_
  refine wl_nil (then_at rfl ?_)
  refine wp_cond_false ky ?_
  refine wp_seq (wl_region ?_)
  refine zu (.bool false) (run_eqz (k := .i64) (a := z) (b := 5) ky ky false (decide_eq_false (by omega))) ?_
  refine zv (.bool false) ?_
  refine wl_nil (then_at rfl ?_)
  refine wp_cond_false ky ?_
  refine wp_skip (block_normal (then_at rfl (wp_seq (wl_region ?_))))
  refine zv (.bool false) ?_
  refine wl_nil (then_at rfl ?_)
  refine wp_ret ?_
  repeat first | refine then_ret ?_ | refine block_ret ?_
  exact bodyPost_ret (v := .bool false) ky rfl ⟨rfl, H0.old.old⟩
/-- may a kind be made of that label, and of so many parts? -/
def mayB (z : Int) (s : ByteArray) (n : Nat) : Bool :=
  if z = 3 then decide (s = { data := #[] } ∧ n = 1) else if z = 4 ∨ z = 7 then decide (s = { data := #[] } ∧ n = 2) else if z = 6 then decide (s = { data := #[] } ∧ n = 4) else if z = 5 then decide (n ≤ 100) else false
theorem mayBe_any (z : Int) (s : ByteArray) (n : Nat) (w : World) :
    Calls Tryz.prog 370 #[.int .i64 z, .string s, iN .i64 n] w fun e w' => e = .returned (.bool (mayB z s n)) ∧ Below w.heap.size w w' := by
  by_cases h3 : z = 3
  · subst h3
    by_cases hs : s = { data := #[] }
    · by_cases hn : n = 1
      · rw [show mayB 3 s n = true by simp [mayB, hs, hn]]; exact mb3_y s n w hs hn
      · rw [show mayB 3 s n = false by simp [mayB, hs, hn]]; exact mb3_n s n w hs hn
    · rw [show mayB 3 s n = false by simp [mayB, hs]]; exact mb3_s s n w hs
  by_cases h4 : z = 4
  · subst h4
    by_cases hs : s = { data := #[] }
    · by_cases hn : n = 2
      · rw [show mayB 4 s n = true by simp [mayB, hs, hn]]; exact mb4_y s n w hs hn
      · rw [show mayB 4 s n = false by simp [mayB, hs, hn]]; exact mb4_n s n w hs hn
    · rw [show mayB 4 s n = false by simp [mayB, hs]]; exact mb4_s s n w hs
  by_cases h7 : z = 7
  · subst h7
    by_cases hs : s = { data := #[] }
    · by_cases hn : n = 2
      · rw [show mayB 7 s n = true by simp [mayB, hs, hn]]; exact mb7_y s n w hs hn
      · rw [show mayB 7 s n = false by simp [mayB, hs, hn]]; exact mb7_n s n w hs hn
    · rw [show mayB 7 s n = false by simp [mayB, hs]]; exact mb7_s s n w hs
  by_cases h6 : z = 6
  · subst h6
    by_cases hs : s = { data := #[] }
    · by_cases hn : n = 4
      · rw [show mayB 6 s n = true by simp [mayB, hs, hn]]; exact mb6_y s n w hs hn
      · rw [show mayB 6 s n = false by simp [mayB, hs, hn]]; exact mb6_n s n w hs hn
    · rw [show mayB 6 s n = false by simp [mayB, hs]]; exact mb6_s s n w hs
  by_cases h5 : z = 5
  · subst h5
    by_cases hn : n ≤ 100
    · rw [show mayB 5 s n = true by simp [mayB, hn]]; exact mb5_y s n w hn
    · rw [show mayB 5 s n = false by simp [mayB, hn]]; exact mb5_n s n w hn
  rw [show mayB z s n = false by simp [mayB, h3, h4, h5, h6, h7]]
  exact mb_o z ⟨h3, h4, h5, h6, h7⟩ s n w
set_option maxRecDepth 100000 in
set_option maxHeartbeats 2000000 in
theorem isLong_n (s : ByteArray) (hs : s.size ≤ 65536) (w : World) :
    Calls Tryz.prog 371 #[.string s] w fun e w' => e = .returned (.bool false) ∧ Below w.heap.size w w' := by
  have H0 := HA.start w
  go_enter Tryz.func371, Tryz.ntmps371
  refine wp_seq (wl_region ?_)
  refine zv (.bool false) ?_
  refine wl_nil (then_at rfl (wp_seq (wl_region ?_)))
  refine zv (.string s) ?_
  refine zu (iN .i64 s.size) (run_len (s := s) ky) ?_
  refine zu (.bool false) (run_gtr (k := .i64) (a := s.size) (b := 65536) ky ky false (decide_eq_false (by omega))) ?_
  refine zv (.bool false) ?_
  refine wl_nil (then_at rfl ?_)
  refine wp_ret ?_
  repeat first | refine then_ret ?_ | refine block_ret ?_
  exact bodyPost_ret (v := .bool false) ky rfl ⟨rfl, H0.old.old⟩
set_option maxRecDepth 100000 in
set_option maxHeartbeats 2000000 in
theorem idx_no {w : World} (ss : List ByteArray) (o : Option Addr) (c : Nat) (hp : ss = [] ∨ ∃ pq cs, o = some ⟨pq, 0, none⟩ ∧ PreS cs ss ∧ Blk w pq 9 cs) (hss : ∀ i, (ss.getD i ByteArray.empty).size ≤ 65536) (hsl : ss.length ≤ 1000) :
    Calls Tryz.prog 137 #[.slice o ss.length c, .func (.func 371) #[] #[]] w fun e w' => e = .returned (.int .i64 (-1)) ∧ Below w.heap.size w w' := by
  have H0 := HA.start w
  go_enter Tryz.func137, Tryz.ntmps137
  refine wp_seq (wl_region ?_)
  refine zv (iN .i64 0) ?_
  refine wl_nil (then_at rfl (wp_seq (wp_seq (wl_region ?_))))
  refine zv (.slice o ss.length c) ?_
  refine zv (iN .i64 ss.length) ?_
  refine zv (iN .i64 0) ?_
  refine wl_nil (then_at rfl (wp_block ?_))
  refine wp_count (fun i A w' => ∃ u1 : Nat → Value, A = ⟨(.slice o ss.length c :: .func (.func 371) #[] #[] :: un :: un :: u1 4 :: u1 5 :: .slice o ss.length c :: iN .i64 ss.length :: iN .i64 i :: u1 9 :: u1 10 :: u1 11 :: u1 12 :: u1 13 :: u1 14 :: u1 15 :: u1 16 :: u1 17 :: u1 18 :: List.replicate 0 un).toArray, []⟩ ∧ HA (bs w) [] w') ss.length ?_ ?_ ?_
  · exact ⟨fun ii => (([(4, iN .i64 0), (5, undef), (9, undef), (10, undef), (11, undef), (12, undef), (13, undef), (14, undef), (15, undef), (16, undef), (17, undef), (18, undef)] : List (Nat × Value)).find? (·.1 == ii)).elim undef (·.2), by kernel_rfl, H0⟩
  · rintro i hk _ w2 ⟨u1, rfl, hT⟩
    obtain ⟨pq, cs, rfl, hps, hm⟩ := hp.resolve_left (by intro e; rw [e] at hk; simp at hk)
    refine wp_seq (wl_region ?_)
    refine zu (.bool true) (run_lss (k := .i64) (a := i) (b := ss.length) ky ky true (decide_eq_true (by omega))) ?_
    refine wl_nil (then_at rfl (wp_seq ?_))
    refine wp_cond_true ky ?_
    refine wp_skip (then_at rfl (wp_seq (wp_block (wp_seq (wl_region ?_)))))
    refine zv (iN .i64 i) ?_
    refine zv (iN .i64 i) ?_
    refine wl_nil (then_at rfl (wp_seq (wl_region ?_)))
    refine zv (.func (.func 371) #[] #[]) ?_
    refine zv (.slice (some ⟨pq, 0, none⟩) ss.length c) ?_
    refine zv (iN .i64 i) ?_
    refine zu (.pointer (some ⟨pq, i, none⟩)) (run_addr_slice (q := pq) (n := ss.length) (m := c) (a := i) Tryz.underlying86 (fun w => Tryz.sizeOf9 w) ky ky (by omega)) ?_
    refine zu (.string (ss.getD i ByteArray.empty)) (run_load1 (fun w => Tryz.isAgg9 w) ky (((hm.keep hT.old.old).cell i).trans (hps i hk))) ?_
    refine wl_callv (v := .bool false) hT ky enter371 #[.string (ss.getD i ByteArray.empty)] ky ky (isLong_n (ss.getD i ByteArray.empty) (hss i) w2) ?_
    intro w3 h4
    refine wl_nil (then_at rfl ?_)
    refine wp_cond_false ky ?_
    refine wp_skip (block_normal (then_at rfl (wl_region ?_)))
    refine zu (iN .i64 (i + 1)) (run_add (k := .i64) (a := i) (b := 1) ky ky (by simp only [top]; omega)) ?_
    refine zv (iN .i64 (i + 1)) ?_
    refine wl_nil ?_
    exact then_I ⟨fun ii => (([(4, u1 4), (5, iN .i64 i), (9, .bool true), (10, iN .i64 i), (11, .func (.func 371) #[] #[]), (12, .slice (some ⟨pq, 0, none⟩) ss.length c), (13, iN .i64 i), (14, .pointer (some ⟨pq, i, none⟩)), (15, .string (ss.getD i ByteArray.empty)), (16, .bool false), (17, u1 17), (18, iN .i64 (i + 1))] : List (Nat × Value)).find? (·.1 == ii)).elim undef (·.2), by kernel_rfl, h4⟩
  · rintro _ w5 ⟨u1, rfl, hT⟩
    refine wp_seq (wl_region ?_)
    refine zu (.bool false) (run_lss (k := .i64) (a := ss.length) (b := ss.length) ky ky false (decide_eq_false (by omega))) ?_
    refine wl_nil (then_at rfl (wp_seq ?_))
    refine wp_cond_false ky ?_
    refine wp_exit ?_
    repeat first | refine then_exit ?_ | refine block_exit ?_ | refine block_exit_ne (by decide) ?_
    refine then_at rfl (wp_seq (wl_region ?_))
    refine zv (.int .i64 (-1)) ?_
    refine wl_nil (then_at rfl ?_)
    refine wp_ret ?_
    repeat first | refine then_ret ?_ | refine block_ret ?_
    exact bodyPost_ret (v := .int .i64 (-1)) ky rfl ⟨rfl, hT.old.old⟩
set_option maxRecDepth 100000 in
set_option maxHeartbeats 2000000 in
theorem cont_no {w : World} (ss : List ByteArray) (o : Option Addr) (c : Nat) (hp : ss = [] ∨ ∃ pq cs, o = some ⟨pq, 0, none⟩ ∧ PreS cs ss ∧ Blk w pq 9 cs) (hss : ∀ i, (ss.getD i ByteArray.empty).size ≤ 65536) (hsl : ss.length ≤ 1000) :
    Calls Tryz.prog 99 #[.slice o ss.length c, .func (.func 371) #[] #[]] w fun e w' => e = .returned (.bool false) ∧ Below w.heap.size w w' := by
  have H0 := HA.start w
  go_enter Tryz.func99, Tryz.ntmps99
  refine wp_seq (wl_region ?_)
  refine zv (.bool false) ?_
  refine wl_nil (then_at rfl (wp_seq (wl_region ?_)))
  refine zv (.slice o ss.length c) ?_
  refine zv (.func (.func 371) #[] #[]) ?_
  refine wl_call (v := .int .i64 (-1)) H0 ky enter137 #[.slice o ss.length c, .func (.func 371) #[] #[]] ky (idx_no ss o c (hp.imp id (fun ⟨pq, cs, h1, h0, h2⟩ => ⟨pq, cs, h1, h0, h2.keep H0.old.old⟩)) hss hsl) ?_
  intro w1 h2
  refine zv (.bool false) ?_
  refine zv (.bool false) ?_
  refine wl_nil (then_at rfl ?_)
  refine wp_ret ?_
  repeat first | refine then_ret ?_ | refine block_ret ?_
  exact bodyPost_ret (v := .bool false) ky rfl ⟨rfl, h2.old.old⟩
def lkJ (es : List Ent) (k : Nat) (label : ByteArray) (ss : List ByteArray) : Option Nat := lkR (mks (pfE es ss ss.length) 0) (recOf k (joinN (pfE es ss ss.length) k (pfN es ss ss.length)) (joinS k label) (joinP (pfE es ss ss.length) k (pfN es ss ss.length)))
/-- the term's number, and the table behind it -/
def JO (es : List Ent) (k : Nat) (label : ByteArray) (ss : List ByteArray) (x : Nat) (es' : List Ent) : Prop :=
  (lkJ es k label ss = some x ∧ es' = pfE es ss ss.length) ∨ (lkJ es k label ss = none ∧ x = (pfE es ss ss.length).length ∧ ∃ b, es' = pfE es ss ss.length ++ [.mk k (joinN (pfE es ss ss.length) k (pfN es ss ss.length)) (joinS k label) (joinP (pfE es ss ss.length) k (pfN es ss ss.length)) b])
theorem mks_lt : ∀ (es : List Ent) (i : Nat), ∀ x ∈ mks es i, x.2 < i + es.length
  | [], _, x, hx => by cases hx
  | e :: es, i, x, hx => by
    have ih := mks_lt es (i + 1)
    cases e with
    | mk k n s ps b =>
      rcases List.mem_cons.1 hx with rfl | hx
      · simp
      · have := ih x hx; simp only [List.length_cons]; omega
    | nm n => have := ih x hx; simp only [List.length_cons]; omega
    | dt s => have := ih x hx; simp only [List.length_cons]; omega
theorem JO.lt {es es' : List Ent} {k x : Nat} {label : ByteArray} {ss : List ByteArray} (h : JO es k label ss x es') : x < es'.length ∧ es'.length ≤ es.length + ss.length + 1 := by
  have hl := pfE_len es ss ss.length
  rcases h with ⟨h1, rfl⟩ | ⟨_, rfl, b, rfl⟩
  · unfold lkJ lkR at h1
    obtain ⟨y, hy, rfl⟩ := Option.map_eq_some_iff.1 h1
    have := mks_lt _ 0 y (List.mem_of_find?_eq_some hy)
    omega
  · simp
    omega
theorem join_JO {w0 w : World} {M : ML} {t : Tb} {es : List Ent} {L : BL} (H : TH w0 M t es L w) (hwf : Wf es) (k : Nat) (label : ByteArray) (hlab : label.size ≤ 281474976710656) (ss : List ByteArray) (o : Option Addr) (c : Nat) (hp : ss = [] ∨ ∃ pq cs, o = some ⟨pq, 0, none⟩ ∧ PreS cs ss ∧ (pq, 9, cs) ∈ L) (hss : ∀ i, (ss.getD i ByteArray.empty).size ≤ 281474976710656) (hsl : ss.length ≤ 100) (hf : es.length < 58000) (h2 : k = 4 → ss.length = 2) :
    Calls Tryz.prog 372 #[pt t.q, iN .i64 k, .string label, .slice o ss.length c] w fun e w' => ∃ x es', JO es k label ss x es' ∧ e = .returned (.tuple #[iN .i64 x, .bool true]) ∧ TH w0 M t es' L w' := by
  refine (join_any H hwf k label hlab ss o c hp hss hsl hf h2).mono ?_
  rintro e w' (⟨x, h1, h2, h3⟩ | ⟨h1, b, h2, h3⟩)
  · exact ⟨x, _, .inl ⟨h1, rfl⟩, h2, h3⟩
  · exact ⟨_, _, .inr ⟨h1, rfl, b, rfl⟩, h2, h3⟩
set_option maxRecDepth 100000 in
set_option maxHeartbeats 2000000 in
theorem Make_ok {w0 w : World} {M : ML} {t : Tb} {es : List Ent} {L : BL} (H : TH w0 M t es L w) (hwf : Wf es) (k : Nat) (label : ByteArray) (ss : List ByteArray) (o : Option Addr) (cc : Nat) (hp : ss = [] ∨ ∃ pq cs, o = some ⟨pq, 0, none⟩ ∧ PreS cs ss ∧ (pq, 9, cs) ∈ L) (hf : es.length < 58000) (hmb : mayB k label ss.length = true) (hlab : label.size ≤ 65536) (hss : ∀ i, (ss.getD i ByteArray.empty).size ≤ 65536) (hsl : ss.length ≤ 100) (i2 : k = 4 → ss.length = 2) :
    Calls Tryz.prog 364 #[pt t.q, iN .i64 k, .string label, .slice o ss.length cc] w fun e w' => ∃ x es', JO es k label ss x es' ∧ e = .returned (.tuple #[.string (txt x), iN .i64 0]) ∧ TH w0 M t es' L w' := by
  obtain ⟨v, Lr, hR, H0⟩ := H
  obtain ⟨p, c, rfl⟩ := hR.form
  go_enter Tryz.func364, Tryz.ntmps364
  refine wp_seq (wl_region ?_)
  refine zv (.string ({ data := #[] })) ?_
  refine zv (iN .i64 0) ?_
  refine wl_nil (then_at rfl (wp_seq (wp_block (wp_seq (wl_region ?_)))))
  refine zv (.pointer (some ⟨t.q, 0, none⟩)) ?_
  refine wl_call (v := .bool false) H0 ky enter80 #[.pointer (some ⟨t.q, 0, none⟩)] ky (none_no (H0.get 0 rfl)) ?_
  intro w1 h2
  refine zv (.bool false) ?_
  refine wl_nil (then_at rfl ?_)
  refine wp_cond_false ky ?_
  refine wp_seq (wl_region ?_)
  refine zv (iN .i64 k) ?_
  refine zv (.string label) ?_
  refine zv (.slice o ss.length cc) ?_
  refine zv (iN .i64 ss.length) ?_
  refine wl_call (v := .bool true) h2 ky enter370 #[iN .i64 k, .string label, iN .i64 ss.length] ky (by have := mayBe_any (k : Int) label ss.length w1; rw [hmb] at this; exact this) ?_
  intro w3 h4
  refine zv (.bool false) ?_
  refine zv (.bool false) ?_
  refine wl_nil (then_at rfl ?_)
  refine wp_cond_false ky ?_
  refine wp_seq (wl_region ?_)
  refine zv (.string label) ?_
  refine wl_call (v := .bool false) h4 ky enter371 #[.string label] ky (isLong_n label hlab w3) ?_
  intro w5 h6
  refine zv (.bool false) ?_
  refine zv (.slice o ss.length cc) ?_
  refine wl_call (v := .bool false) h6 ky enter99 #[.slice o ss.length cc, .func (.func 371) #[] #[]] ky (cont_no ss o cc (hp.imp id (fun ⟨pq, cs, j1, j0, j2⟩ => ⟨pq, cs, j1, j0, h6.blk (pq, 9, cs) (by simp [j2])⟩)) hss (by omega)) ?_
  intro w7 h8
  refine zv (.bool false) ?_
  refine zv (.bool false) ?_
  refine wl_nil (then_at rfl ?_)
  refine wp_cond_false ky ?_
  refine wp_skip (block_normal (then_at rfl (wp_seq (wl_region ?_))))
  refine zv (.pointer (some ⟨t.q, 0, none⟩)) ?_
  refine zv (.pointer (some ⟨t.q, 0, none⟩)) ?_
  refine zv (.pointer (some ⟨t.q, 0, none⟩)) ?_
  refine zu (.slice p es.length c) (run_load1 (fun w => Tryz.isAgg141 w) ky (((h8.get 0 rfl).cell 0).trans rfl)) ?_
  refine zv (iN .i64 es.length) ?_
  refine zv (iN .i64 es.length) ?_
  refine wl_nil (then_at rfl (wp_seq (wl_region ?_)))
  refine zv (.pointer (some ⟨t.q, 0, none⟩)) ?_
  refine zv (iN .i64 k) ?_
  refine zv (.string label) ?_
  refine zv (.slice o ss.length cc) ?_
  refine wl_callx ky enter372 #[.pointer (some ⟨t.q, 0, none⟩), iN .i64 k, .string label, .slice o ss.length cc] ky (join_JO ⟨_, _, hR, h8⟩ hwf k label (by omega) ss o cc hp (fun i => by have := hss i; omega) hsl hf i2) ?_
  rintro _ w9 ⟨x1, es1, hJ, rfl, hT1⟩
  refine ⟨_, rfl, ?_⟩
  refine zv (.tuple #[iN .i64 x1, .bool true]) ?_
  refine zv (iN .i64 x1) ?_
  refine zv (.bool true) ?_
  refine zv (iN .i64 x1) ?_
  refine zv (.bool true) ?_
  refine wl_nil (then_at rfl (wp_seq (wp_seq (wl_region ?_))))
  refine zv (.bool true) ?_
  refine zv (.bool false) ?_
  refine wl_nil (then_at rfl ?_)
  refine wp_cond_false ky ?_
  refine wp_skip (then_at rfl (wp_seq (wl_region ?_)))
  refine zv (iN .i64 x1) ?_
  refine wl_callx ky enter366 #[iN .i64 x1] ky (textOf_any x1 (by have := hJ.lt; omega) w9) ?_
  rintro _ w11 ⟨rfl, hb10⟩
  refine ⟨_, rfl, ?_⟩
  have hT12 := TH.keep hT1 hb10
  refine zv (.string (txt x1)) ?_
  refine zv (iN .i64 0) ?_
  refine wl_nil (then_at rfl ?_)
  refine wp_ret ?_
  repeat first | refine then_ret ?_ | refine block_ret ?_
  exact bodyPost_ret (v := .tuple #[.string (txt x1), iN .i64 0]) ky rfl ⟨x1, es1, hJ, rfl, hT12⟩
theorem HA.swapM {w0 w : World} {M : ML} {L : BL} {a b : Nat × Array MapEntry × Nat} (H : HA ⟨w0, a :: b :: M⟩ L w) : HA ⟨w0, b :: a :: M⟩ L w :=
  ⟨⟨H.old.old, fun m hm => H.old.maps m ((List.Perm.swap a b M).subset hm), fun m hm => H.old.mown m ((List.Perm.swap a b M).subset hm), ((List.Perm.swap a b M).map _).nodup_iff.2 H.old.mnd⟩, H.blk, H.own, H.nd⟩
set_option maxRecDepth 100000 in
set_option maxHeartbeats 2000000 in
theorem New_ok {w0 w : World} {M : ML} {L : BL} (H0 : HA ⟨w0, M⟩ L w) :
    Calls Tryz.prog 54 #[] w fun e w' => ∃ t : Tb, e = .returned (pt t.q) ∧ TH w0 M t [] L w' := by
  go_enter Tryz.func54, Tryz.ntmps54
  refine wp_seq (wl_region ?_)
  refine zv (.pointer none) ?_
  refine wl_nil (then_at rfl (wp_seq (wl_region ?_)))
  refine wl_newMap H0 ky ?_
  intro mb1 w2 (h3 : HA ⟨w0, (mb1, #[], 0) :: M⟩ (L) w2)
  refine wl_newMap h3 ky ?_
  intro mb4 w5 (h6 : HA ⟨w0, (mb4, #[], 0) :: (mb1, #[], 0) :: M⟩ (L) w5)
  refine zv (.agg #[.slice none 0 0, iN .i64 0, .map (some mb1), .map (some mb4)]) ?_
  refine wl_make (c := #[.slice none 0 0, iN .i64 0, .map (some mb1), .map (some mb4)]) h6 145 ky ky ?_
  intro q7 w8 (h9 : HA ⟨w0, (mb4, #[], 0) :: (mb1, #[], 0) :: M⟩ ((q7, 145, #[.slice none 0 0, iN .i64 0, .map (some mb1), .map (some mb4)]) :: L) w8)
  refine zv (.pointer (some ⟨q7, 0, none⟩)) ?_
  refine wl_nil (then_at rfl ?_)
  refine wp_ret ?_
  repeat first | refine then_ret ?_ | refine block_ret ?_
  exact bodyPost_ret (v := .pointer (some ⟨q7, 0, none⟩)) ky rfl ⟨⟨q7, mb1, mb4⟩, rfl, .slice none 0 0, [], Row.nil 150 1, (HA.swapM h9)⟩
end Go.Proofs.YtoogiblkommdfaaGreat
