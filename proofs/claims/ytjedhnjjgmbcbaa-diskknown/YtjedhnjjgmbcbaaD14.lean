/-
  Disks that are none.
-/
import Derived.Test.YtjedhnjjgmbcbaaD12
namespace Go.Proofs.Ytjedhnjjgmbcbaa
open Go.RowKit

set_option linter.unusedVariables false in
set_option maxRecDepth 100000 in
set_option maxHeartbeats 2000000 in
theorem spend_nil  (w : World) :
    Calls Try.prog 62 #[.pointer none] w fun e w' => e = .returned (.tuple #[]) ∧ Below w.heap.size w w' := by
  have H0 := HA.start w
  go_enter Try.func62, Try.ntmps62
  refine wp_seq ?_
  refine wp_seq ?_
  refine wl_region ?_
  refine wl_val (.pointer none) (by kernel_rfl) (by kernel_rfl) ?_
  refine wl_call (v := .bool true) H0 (by kernel_rfl) enter50 #[.pointer none] (by kernel_rfl) (none_nil w) ?_
  intro w1 h2
  refine wl_val (.bool true) (by kernel_rfl) (by kernel_rfl) ?_
  refine wl_skip (by kernel_rfl) ?_
  refine wl_skip (by kernel_rfl) ?_
  refine wl_skip (by kernel_rfl) ?_
  refine wl_skip (by kernel_rfl) ?_
  refine wl_skip (by kernel_rfl) ?_
  refine wl_val (.bool true) (by kernel_rfl) (by kernel_rfl) ?_
  refine wl_nil ?_
  refine then_at (F := ⟨(.pointer none :: un :: .pointer none :: .bool true :: .bool true :: un :: un :: un :: un :: un :: .bool true :: List.replicate 15 un).toArray, []⟩) (by kernel_rfl) ?_
  refine wp_cond_true (by kernel_rfl) ?_
  refine wp_ret ?_
  repeat first | refine then_ret ?_ | refine block_ret ?_
  exact bodyPost_ret (v := .tuple #[]) (by kernel_rfl) rfl ⟨rfl, h2.old.old⟩
set_option linter.unusedVariables false in
set_option maxRecDepth 100000 in
set_option maxHeartbeats 2000000 in
theorem operate_nil (fv : Value) (w : World) :
    Calls Try.prog 32 #[.pointer none, fv] w fun e w' => e = .returned (iN .i64 1) ∧ Below w.heap.size w w' := by
  have H0 := HA.start w
  go_enter Try.func32, Try.ntmps32
  refine wp_seq ?_
  refine wl_region ?_
  refine wl_val (iN .i64 0) (by kernel_rfl) (by kernel_rfl) ?_
  refine wl_nil ?_
  refine then_at (F := ⟨(.pointer none :: fv :: un :: un :: iN .i64 0 :: List.replicate 28 un).toArray, []⟩) (by kernel_rfl) ?_
  refine wp_seq ?_
  refine wl_region ?_
  refine wl_val (.pointer none) (by kernel_rfl) (by kernel_rfl) ?_
  refine wl_call (v := .tuple #[]) H0 (by kernel_rfl) enter62 #[.pointer none] (by kernel_rfl) (spend_nil w) ?_
  intro w1 h2
  refine wl_nil ?_
  refine then_at (F := ⟨(.pointer none :: fv :: un :: un :: iN .i64 0 :: un :: un :: un :: .pointer none :: .tuple #[] :: List.replicate 23 un).toArray, []⟩) (by kernel_rfl) ?_
  refine wp_seq ?_
  refine wp_seq ?_
  refine wl_region ?_
  refine wl_val (.pointer none) (by kernel_rfl) (by kernel_rfl) ?_
  refine wl_call (v := iN .i64 1) h2 (by kernel_rfl) enter49 #[.pointer none] (by kernel_rfl) (refused_nil w1) ?_
  intro w3 h4
  refine wl_val (iN .i64 1) (by kernel_rfl) (by kernel_rfl) ?_
  refine wl_nil ?_
  refine then_at (F := ⟨(.pointer none :: fv :: un :: un :: iN .i64 0 :: iN .i64 1 :: un :: un :: .pointer none :: .tuple #[] :: .pointer none :: iN .i64 1 :: List.replicate 21 un).toArray, []⟩) (by kernel_rfl) ?_
  refine wp_seq ?_
  refine wl_region ?_
  refine wl_val (iN .i64 1) (by kernel_rfl) (by kernel_rfl) ?_
  refine wl_val (.bool true) (by kernel_rfl) (run_nei (k := .i64) (a := 1) (b := 0) (by kernel_rfl) (by kernel_rfl) true (by decide)) ?_
  refine wl_nil ?_
  refine then_at (F := ⟨(.pointer none :: fv :: un :: un :: iN .i64 0 :: iN .i64 1 :: un :: un :: .pointer none :: .tuple #[] :: .pointer none :: iN .i64 1 :: iN .i64 1 :: .bool true :: List.replicate 19 un).toArray, []⟩) (by kernel_rfl) ?_
  refine wp_cond_true (by kernel_rfl) ?_
  refine wp_seq ?_
  refine wl_region ?_
  refine wl_val (iN .i64 1) (by kernel_rfl) (by kernel_rfl) ?_
  refine wl_val (iN .i64 1) (by kernel_rfl) (by kernel_rfl) ?_
  refine wl_nil ?_
  refine then_at (F := ⟨(.pointer none :: fv :: un :: un :: iN .i64 1 :: iN .i64 1 :: un :: un :: .pointer none :: .tuple #[] :: .pointer none :: iN .i64 1 :: iN .i64 1 :: .bool true :: iN .i64 1 :: List.replicate 18 un).toArray, []⟩) (by kernel_rfl) ?_
  refine wp_ret ?_
  repeat first | refine then_ret ?_ | refine block_ret ?_
  exact bodyPost_ret (v := iN .i64 1) (by kernel_rfl) rfl ⟨rfl, h4.old.old⟩
set_option linter.unusedVariables false in
set_option maxRecDepth 100000 in
set_option maxHeartbeats 2000000 in
theorem Append_nil (s u : ByteArray) (w : World) :
    Calls Try.prog 10 #[.pointer none, .string s, .string u] w fun e w' => e = .returned (iN .i64 1) ∧ Below w.heap.size w w' := by
  have H0 := HA.start w
  go_enter Try.func10, Try.ntmps10
  refine wp_seq ?_
  refine wl_region ?_
  refine wl_make (c := #[.pointer none]) H0 23 (by kernel_rfl) (by kernel_rfl) ?_
  intro q1 w2 (h3 : HA (bs w) [(q1, 23, #[.pointer none])] w2)
  refine wl_make (c := #[.string s]) h3 9 (by kernel_rfl) (by kernel_rfl) ?_
  intro q4 w5 (h6 : HA (bs w) [(q4, 9, #[.string s]), (q1, 23, #[.pointer none])] w5)
  refine wl_make (c := #[.string u]) h6 9 (by kernel_rfl) (by kernel_rfl) ?_
  intro q7 w8 (h9 : HA (bs w) [(q7, 9, #[.string u]), (q4, 9, #[.string s]), (q1, 23, #[.pointer none])] w8)
  refine wl_val (iN .i64 0) (by kernel_rfl) (by kernel_rfl) ?_
  refine wl_nil ?_
  refine then_at (F := ⟨(.pointer none :: .string s :: .string u :: pt q1 :: pt q4 :: pt q7 :: iN .i64 0 :: List.replicate 3 un).toArray, []⟩) (by kernel_rfl) ?_
  refine wp_seq ?_
  refine wl_region ?_
  refine wl_val (.pointer none) (by kernel_rfl) (run_load1 (fun w => Try.isAgg23 w) (by kernel_rfl) (((h9.get 2 rfl).cell 0).trans rfl)) ?_
  refine wl_val (.func (.func 33) #[] #[.pointer (some ⟨q4, 0, none⟩), .pointer (some ⟨q7, 0, none⟩), .pointer (some ⟨q1, 0, none⟩)]) (by kernel_rfl) (by kernel_rfl) ?_
  refine wl_call (v := iN .i64 1) h9 (by kernel_rfl) enter32 #[.pointer none, .func (.func 33) #[] #[.pointer (some ⟨q4, 0, none⟩), .pointer (some ⟨q7, 0, none⟩), .pointer (some ⟨q1, 0, none⟩)]] (by kernel_rfl) (operate_nil (.func (.func 33) #[] #[.pointer (some ⟨q4, 0, none⟩), .pointer (some ⟨q7, 0, none⟩), .pointer (some ⟨q1, 0, none⟩)]) w8) ?_
  intro w10 h11
  refine wl_val (iN .i64 1) (by kernel_rfl) (by kernel_rfl) ?_
  refine wl_nil ?_
  refine then_at (F := ⟨(.pointer none :: .string s :: .string u :: pt q1 :: pt q4 :: pt q7 :: iN .i64 1 :: .pointer none :: .func (.func 33) #[] #[pt q4, pt q7, pt q1] :: iN .i64 1 :: List.replicate 0 un).toArray, []⟩) (by kernel_rfl) ?_
  refine wp_ret ?_
  repeat first | refine then_ret ?_ | refine block_ret ?_
  exact bodyPost_ret (v := iN .i64 1) (by kernel_rfl) rfl ⟨rfl, h11.old.old⟩
set_option linter.unusedVariables false in
set_option maxRecDepth 100000 in
set_option maxHeartbeats 2000000 in
theorem operateOn_nil (s : ByteArray) (F : FuncId) (cap : Array Value) (w : World) :
    Calls Try.prog 42 #[.pointer none, .string s, .func (.func F) #[] cap] w fun e w' => e = .returned (iN .i64 1) ∧ Below w.heap.size w w' := by
  have H0 := HA.start w
  go_enter Try.func42, Try.ntmps42
  refine wp_seq ?_
  refine wl_region ?_
  refine wl_make (c := #[.pointer none]) H0 23 (by kernel_rfl) (by kernel_rfl) ?_
  intro q1 w2 (h3 : HA (bs w) [(q1, 23, #[.pointer none])] w2)
  refine wl_make (c := #[.string s]) h3 9 (by kernel_rfl) (by kernel_rfl) ?_
  intro q4 w5 (h6 : HA (bs w) [(q4, 9, #[.string s]), (q1, 23, #[.pointer none])] w5)
  refine wl_make (c := #[.func (.func F) #[] cap]) h6 79 (by kernel_rfl) (by kernel_rfl) ?_
  intro q7 w8 (h9 : HA (bs w) [(q7, 79, #[.func (.func F) #[] cap]), (q4, 9, #[.string s]), (q1, 23, #[.pointer none])] w8)
  refine wl_val (iN .i64 0) (by kernel_rfl) (by kernel_rfl) ?_
  refine wl_nil ?_
  refine then_at (F := ⟨(.pointer none :: .string s :: .func (.func F) #[] cap :: pt q1 :: pt q4 :: pt q7 :: iN .i64 0 :: List.replicate 3 un).toArray, []⟩) (by kernel_rfl) ?_
  refine wp_seq ?_
  refine wl_region ?_
  refine wl_val (.pointer none) (by kernel_rfl) (run_load1 (fun w => Try.isAgg23 w) (by kernel_rfl) (((h9.get 2 rfl).cell 0).trans rfl)) ?_
  refine wl_val (.func (.func 63) #[] #[.pointer (some ⟨q1, 0, none⟩), .pointer (some ⟨q4, 0, none⟩), .pointer (some ⟨q7, 0, none⟩)]) (by kernel_rfl) (by kernel_rfl) ?_
  refine wl_call (v := iN .i64 1) h9 (by kernel_rfl) enter32 #[.pointer none, .func (.func 63) #[] #[.pointer (some ⟨q1, 0, none⟩), .pointer (some ⟨q4, 0, none⟩), .pointer (some ⟨q7, 0, none⟩)]] (by kernel_rfl) (operate_nil (.func (.func 63) #[] #[.pointer (some ⟨q1, 0, none⟩), .pointer (some ⟨q4, 0, none⟩), .pointer (some ⟨q7, 0, none⟩)]) w8) ?_
  intro w10 h11
  refine wl_val (iN .i64 1) (by kernel_rfl) (by kernel_rfl) ?_
  refine wl_nil ?_
  refine then_at (F := ⟨(.pointer none :: .string s :: .func (.func F) #[] cap :: pt q1 :: pt q4 :: pt q7 :: iN .i64 1 :: .pointer none :: .func (.func 63) #[] #[pt q1, pt q4, pt q7] :: iN .i64 1 :: List.replicate 0 un).toArray, []⟩) (by kernel_rfl) ?_
  refine wp_ret ?_
  repeat first | refine then_ret ?_ | refine block_ret ?_
  exact bodyPost_ret (v := iN .i64 1) (by kernel_rfl) rfl ⟨rfl, h11.old.old⟩
set_option linter.unusedVariables false in
set_option maxRecDepth 100000 in
set_option maxHeartbeats 2000000 in
theorem Sync_nil (s : ByteArray) (w : World) :
    Calls Try.prog 12 #[.pointer none, .string s] w fun e w' => e = .returned (iN .i64 1) ∧ Below w.heap.size w w' := by
  have H0 := HA.start w
  go_enter Try.func12, Try.ntmps12
  refine wp_seq ?_
  refine wl_region ?_
  refine wl_val (iN .i64 0) (by kernel_rfl) (by kernel_rfl) ?_
  refine wl_nil ?_
  refine then_at (F := ⟨(.pointer none :: .string s :: un :: un :: iN .i64 0 :: List.replicate 3 un).toArray, []⟩) (by kernel_rfl) ?_
  refine wp_seq ?_
  refine wl_region ?_
  refine wl_val (.pointer none) (by kernel_rfl) (by kernel_rfl) ?_
  refine wl_val (.string s) (by kernel_rfl) (by kernel_rfl) ?_
  refine wl_call (v := iN .i64 1) H0 (by kernel_rfl) enter42 #[.pointer none, .string s, .func (.func 43) #[] #[]] (by kernel_rfl) (operateOn_nil s 43 #[] w) ?_
  intro w1 h2
  refine wl_val (iN .i64 1) (by kernel_rfl) (by kernel_rfl) ?_
  refine wl_nil ?_
  refine then_at (F := ⟨(.pointer none :: .string s :: un :: un :: iN .i64 1 :: .pointer none :: .string s :: iN .i64 1 :: List.replicate 0 un).toArray, []⟩) (by kernel_rfl) ?_
  refine wp_ret ?_
  repeat first | refine then_ret ?_ | refine block_ret ?_
  exact bodyPost_ret (v := iN .i64 1) (by kernel_rfl) rfl ⟨rfl, h2.old.old⟩
set_option linter.unusedVariables false in
set_option maxRecDepth 100000 in
set_option maxHeartbeats 2000000 in
theorem Rename_nil (s u : ByteArray) (w : World) :
    Calls Try.prog 14 #[.pointer none, .string s, .string u] w fun e w' => e = .returned (iN .i64 1) ∧ Below w.heap.size w w' := by
  have H0 := HA.start w
  go_enter Try.func14, Try.ntmps14
  refine wp_seq ?_
  refine wl_region ?_
  refine wl_make (c := #[.pointer none]) H0 23 (by kernel_rfl) (by kernel_rfl) ?_
  intro q1 w2 (h3 : HA (bs w) [(q1, 23, #[.pointer none])] w2)
  refine wl_make (c := #[.string s]) h3 9 (by kernel_rfl) (by kernel_rfl) ?_
  intro q4 w5 (h6 : HA (bs w) [(q4, 9, #[.string s]), (q1, 23, #[.pointer none])] w5)
  refine wl_make (c := #[.string u]) h6 9 (by kernel_rfl) (by kernel_rfl) ?_
  intro q7 w8 (h9 : HA (bs w) [(q7, 9, #[.string u]), (q4, 9, #[.string s]), (q1, 23, #[.pointer none])] w8)
  refine wl_val (iN .i64 0) (by kernel_rfl) (by kernel_rfl) ?_
  refine wl_nil ?_
  refine then_at (F := ⟨(.pointer none :: .string s :: .string u :: pt q1 :: pt q4 :: pt q7 :: iN .i64 0 :: List.replicate 4 un).toArray, []⟩) (by kernel_rfl) ?_
  refine wp_seq ?_
  refine wl_region ?_
  refine wl_val (.pointer none) (by kernel_rfl) (run_load1 (fun w => Try.isAgg23 w) (by kernel_rfl) (((h9.get 2 rfl).cell 0).trans rfl)) ?_
  refine wl_val (.string s) (by kernel_rfl) (run_load1 (fun w => Try.isAgg9 w) (by kernel_rfl) (((h9.get 1 rfl).cell 0).trans rfl)) ?_
  refine wl_val (.func (.func 44) #[] #[.pointer (some ⟨q7, 0, none⟩), .pointer (some ⟨q4, 0, none⟩), .pointer (some ⟨q1, 0, none⟩)]) (by kernel_rfl) (by kernel_rfl) ?_
  refine wl_call (v := iN .i64 1) h9 (by kernel_rfl) enter42 #[.pointer none, .string s, .func (.func 44) #[] #[.pointer (some ⟨q7, 0, none⟩), .pointer (some ⟨q4, 0, none⟩), .pointer (some ⟨q1, 0, none⟩)]] (by kernel_rfl) (operateOn_nil s 44 #[.pointer (some ⟨q7, 0, none⟩), .pointer (some ⟨q4, 0, none⟩), .pointer (some ⟨q1, 0, none⟩)] w8) ?_
  intro w10 h11
  refine wl_val (iN .i64 1) (by kernel_rfl) (by kernel_rfl) ?_
  refine wl_nil ?_
  refine then_at (F := ⟨(.pointer none :: .string s :: .string u :: pt q1 :: pt q4 :: pt q7 :: iN .i64 1 :: .pointer none :: .string s :: .func (.func 44) #[] #[pt q7, pt q4, pt q1] :: iN .i64 1 :: List.replicate 0 un).toArray, []⟩) (by kernel_rfl) ?_
  refine wp_ret ?_
  repeat first | refine then_ret ?_ | refine block_ret ?_
  exact bodyPost_ret (v := iN .i64 1) (by kernel_rfl) rfl ⟨rfl, h11.old.old⟩
set_option linter.unusedVariables false in
set_option maxRecDepth 100000 in
set_option maxHeartbeats 2000000 in
theorem Remove_nil (s : ByteArray) (w : World) :
    Calls Try.prog 16 #[.pointer none, .string s] w fun e w' => e = .returned (iN .i64 1) ∧ Below w.heap.size w w' := by
  have H0 := HA.start w
  go_enter Try.func16, Try.ntmps16
  refine wp_seq ?_
  refine wl_region ?_
  refine wl_make (c := #[.pointer none]) H0 23 (by kernel_rfl) (by kernel_rfl) ?_
  intro q1 w2 (h3 : HA (bs w) [(q1, 23, #[.pointer none])] w2)
  refine wl_make (c := #[.string s]) h3 9 (by kernel_rfl) (by kernel_rfl) ?_
  intro q4 w5 (h6 : HA (bs w) [(q4, 9, #[.string s]), (q1, 23, #[.pointer none])] w5)
  refine wl_val (iN .i64 0) (by kernel_rfl) (by kernel_rfl) ?_
  refine wl_nil ?_
  refine then_at (F := ⟨(.pointer none :: .string s :: pt q1 :: pt q4 :: iN .i64 0 :: List.replicate 4 un).toArray, []⟩) (by kernel_rfl) ?_
  refine wp_seq ?_
  refine wl_region ?_
  refine wl_val (.pointer none) (by kernel_rfl) (run_load1 (fun w => Try.isAgg23 w) (by kernel_rfl) (((h6.get 1 rfl).cell 0).trans rfl)) ?_
  refine wl_val (.string s) (by kernel_rfl) (run_load1 (fun w => Try.isAgg9 w) (by kernel_rfl) (((h6.get 0 rfl).cell 0).trans rfl)) ?_
  refine wl_val (.func (.func 48) #[] #[.pointer (some ⟨q1, 0, none⟩), .pointer (some ⟨q4, 0, none⟩)]) (by kernel_rfl) (by kernel_rfl) ?_
  refine wl_call (v := iN .i64 1) h6 (by kernel_rfl) enter42 #[.pointer none, .string s, .func (.func 48) #[] #[.pointer (some ⟨q1, 0, none⟩), .pointer (some ⟨q4, 0, none⟩)]] (by kernel_rfl) (operateOn_nil s 48 #[.pointer (some ⟨q1, 0, none⟩), .pointer (some ⟨q4, 0, none⟩)] w5) ?_
  intro w7 h8
  refine wl_val (iN .i64 1) (by kernel_rfl) (by kernel_rfl) ?_
  refine wl_nil ?_
  refine then_at (F := ⟨(.pointer none :: .string s :: pt q1 :: pt q4 :: iN .i64 1 :: .pointer none :: .string s :: .func (.func 48) #[] #[pt q1, pt q4] :: iN .i64 1 :: List.replicate 0 un).toArray, []⟩) (by kernel_rfl) ?_
  refine wp_ret ?_
  repeat first | refine then_ret ?_ | refine block_ret ?_
  exact bodyPost_ret (v := iN .i64 1) (by kernel_rfl) rfl ⟨rfl, h8.old.old⟩
set_option linter.unusedVariables false in
set_option maxRecDepth 100000 in
set_option maxHeartbeats 2000000 in
theorem Arm_nil (z : Int) (w : World) :
    Calls Try.prog 18 #[.pointer none, .int .i64 z] w fun e w' => e = .returned (iN .i64 1) ∧ Below w.heap.size w w' := by
  have H0 := HA.start w
  go_enter Try.func18, Try.ntmps18
  refine wp_seq ?_
  refine wl_region ?_
  refine wl_val (iN .i64 0) (by kernel_rfl) (by kernel_rfl) ?_
  refine wl_nil ?_
  refine then_at (F := ⟨(.pointer none :: .int .i64 z :: un :: un :: iN .i64 0 :: List.replicate 12 un).toArray, []⟩) (by kernel_rfl) ?_
  refine wp_seq ?_
  refine wp_seq ?_
  refine wl_region ?_
  refine wl_val (.pointer none) (by kernel_rfl) (by kernel_rfl) ?_
  refine wl_call (v := iN .i64 1) H0 (by kernel_rfl) enter49 #[.pointer none] (by kernel_rfl) (refused_nil w) ?_
  intro w1 h2
  refine wl_val (iN .i64 1) (by kernel_rfl) (by kernel_rfl) ?_
  refine wl_nil ?_
  refine then_at (F := ⟨(.pointer none :: .int .i64 z :: un :: un :: iN .i64 0 :: iN .i64 1 :: .pointer none :: iN .i64 1 :: List.replicate 9 un).toArray, []⟩) (by kernel_rfl) ?_
  refine wp_seq ?_
  refine wl_region ?_
  refine wl_val (iN .i64 1) (by kernel_rfl) (by kernel_rfl) ?_
  refine wl_val (.bool true) (by kernel_rfl) (run_nei (k := .i64) (a := 1) (b := 0) (by kernel_rfl) (by kernel_rfl) true (by decide)) ?_
  refine wl_nil ?_
  refine then_at (F := ⟨(.pointer none :: .int .i64 z :: un :: un :: iN .i64 0 :: iN .i64 1 :: .pointer none :: iN .i64 1 :: iN .i64 1 :: .bool true :: List.replicate 7 un).toArray, []⟩) (by kernel_rfl) ?_
  refine wp_cond_true (by kernel_rfl) ?_
  refine wp_seq ?_
  refine wl_region ?_
  refine wl_val (iN .i64 1) (by kernel_rfl) (by kernel_rfl) ?_
  refine wl_val (iN .i64 1) (by kernel_rfl) (by kernel_rfl) ?_
  refine wl_nil ?_
  refine then_at (F := ⟨(.pointer none :: .int .i64 z :: un :: un :: iN .i64 1 :: iN .i64 1 :: .pointer none :: iN .i64 1 :: iN .i64 1 :: .bool true :: iN .i64 1 :: List.replicate 6 un).toArray, []⟩) (by kernel_rfl) ?_
  refine wp_ret ?_
  repeat first | refine then_ret ?_ | refine block_ret ?_
  exact bodyPost_ret (v := iN .i64 1) (by kernel_rfl) rfl ⟨rfl, h2.old.old⟩
set_option linter.unusedVariables false in
set_option maxRecDepth 100000 in
set_option maxHeartbeats 2000000 in
theorem Wake_nil (v : Value) (w : World) :
    Calls Try.prog 20 #[.pointer none, v] w fun e w' => e = .returned (iN .i64 1) ∧ Below w.heap.size w w' := by
  have H0 := HA.start w
  go_enter Try.func20, Try.ntmps20
  refine wp_seq ?_
  refine wl_region ?_
  refine wl_val (iN .i64 0) (by kernel_rfl) (by kernel_rfl) ?_
  refine wl_nil ?_
  refine then_at (F := ⟨(.pointer none :: v :: un :: un :: iN .i64 0 :: List.replicate 47 un).toArray, []⟩) (by kernel_rfl) ?_
  refine wp_seq ?_
  refine wp_seq ?_
  refine wl_region ?_
  refine wl_val (.pointer none) (by kernel_rfl) (by kernel_rfl) ?_
  refine wl_call (v := .bool true) H0 (by kernel_rfl) enter50 #[.pointer none] (by kernel_rfl) (none_nil w) ?_
  intro w1 h2
  refine wl_nil ?_
  refine then_at (F := ⟨(.pointer none :: v :: un :: un :: iN .i64 0 :: un :: un :: un :: .pointer none :: .bool true :: List.replicate 42 un).toArray, []⟩) (by kernel_rfl) ?_
  refine wp_cond_true (by kernel_rfl) ?_
  refine wp_seq ?_
  refine wl_region ?_
  refine wl_val (iN .i64 1) (by kernel_rfl) (by kernel_rfl) ?_
  refine wl_nil ?_
  refine then_at (F := ⟨(.pointer none :: v :: un :: un :: iN .i64 1 :: un :: un :: un :: .pointer none :: .bool true :: List.replicate 42 un).toArray, []⟩) (by kernel_rfl) ?_
  refine wp_ret ?_
  repeat first | refine then_ret ?_ | refine block_ret ?_
  exact bodyPost_ret (v := iN .i64 1) (by kernel_rfl) rfl ⟨rfl, h2.old.old⟩
set_option linter.unusedVariables false in
set_option maxRecDepth 100000 in
set_option maxHeartbeats 2000000 in
theorem Read_nil (s : ByteArray) (w : World) :
    Calls Try.prog 23 #[.pointer none, .string s] w fun e w' => e = .returned (.tuple #[.string { data := #[] }, iN .i64 1]) ∧ Below w.heap.size w w' := by
  have H0 := HA.start w
  go_enter Try.func23, Try.ntmps23
  refine wp_seq ?_
  refine wl_region ?_
  refine wl_val (.string ({ data := #[] })) (by kernel_rfl) (by kernel_rfl) ?_
  refine wl_val (iN .i64 0) (by kernel_rfl) (by kernel_rfl) ?_
  refine wl_nil ?_
  refine then_at (F := ⟨(.pointer none :: .string s :: un :: un :: .string ({ data := #[] }) :: iN .i64 0 :: List.replicate 20 un).toArray, []⟩) (by kernel_rfl) ?_
  refine wp_seq ?_
  refine wp_seq ?_
  refine wl_region ?_
  refine wl_val (.pointer none) (by kernel_rfl) (by kernel_rfl) ?_
  refine wl_call (v := iN .i64 1) H0 (by kernel_rfl) enter49 #[.pointer none] (by kernel_rfl) (refused_nil w) ?_
  intro w1 h2
  refine wl_val (iN .i64 1) (by kernel_rfl) (by kernel_rfl) ?_
  refine wl_nil ?_
  refine then_at (F := ⟨(.pointer none :: .string s :: un :: un :: .string ({ data := #[] }) :: iN .i64 0 :: iN .i64 1 :: un :: .pointer none :: iN .i64 1 :: List.replicate 16 un).toArray, []⟩) (by kernel_rfl) ?_
  refine wp_seq ?_
  refine wl_region ?_
  refine wl_val (iN .i64 1) (by kernel_rfl) (by kernel_rfl) ?_
  refine wl_val (.bool true) (by kernel_rfl) (run_nei (k := .i64) (a := 1) (b := 0) (by kernel_rfl) (by kernel_rfl) true (by decide)) ?_
  refine wl_nil ?_
  refine then_at (F := ⟨(.pointer none :: .string s :: un :: un :: .string ({ data := #[] }) :: iN .i64 0 :: iN .i64 1 :: un :: .pointer none :: iN .i64 1 :: iN .i64 1 :: .bool true :: List.replicate 14 un).toArray, []⟩) (by kernel_rfl) ?_
  refine wp_cond_true (by kernel_rfl) ?_
  refine wp_seq ?_
  refine wl_region ?_
  refine wl_val (iN .i64 1) (by kernel_rfl) (by kernel_rfl) ?_
  refine wl_val (.string ({ data := #[] })) (by kernel_rfl) (by kernel_rfl) ?_
  refine wl_val (iN .i64 1) (by kernel_rfl) (by kernel_rfl) ?_
  refine wl_nil ?_
  refine then_at (F := ⟨(.pointer none :: .string s :: un :: un :: .string ({ data := #[] }) :: iN .i64 1 :: iN .i64 1 :: un :: .pointer none :: iN .i64 1 :: iN .i64 1 :: .bool true :: iN .i64 1 :: List.replicate 13 un).toArray, []⟩) (by kernel_rfl) ?_
  refine wp_ret ?_
  repeat first | refine then_ret ?_ | refine block_ret ?_
  exact bodyPost_ret (v := .tuple #[.string { data := #[] }, iN .i64 1]) (by kernel_rfl) rfl ⟨rfl, h2.old.old⟩
set_option linter.unusedVariables false in
set_option maxRecDepth 100000 in
set_option maxHeartbeats 2000000 in
theorem Synced_nil (s : ByteArray) (w : World) :
    Calls Try.prog 28 #[.pointer none, .string s] w fun e w' => e = .returned (iN .i64 0) ∧ Below w.heap.size w w' := by
  have H0 := HA.start w
  go_enter Try.func28, Try.ntmps28
  refine wp_seq ?_
  refine wl_region ?_
  refine wl_val (iN .i64 0) (by kernel_rfl) (by kernel_rfl) ?_
  refine wl_nil ?_
  refine then_at (F := ⟨(.pointer none :: .string s :: un :: un :: iN .i64 0 :: List.replicate 20 un).toArray, []⟩) (by kernel_rfl) ?_
  refine wp_seq ?_
  refine wp_seq ?_
  refine wl_region ?_
  refine wl_val (.pointer none) (by kernel_rfl) (by kernel_rfl) ?_
  refine wl_call (v := .bool true) H0 (by kernel_rfl) enter59 #[.pointer none] (by kernel_rfl) (dark_nil w) ?_
  intro w1 h2
  refine wl_val (.bool true) (by kernel_rfl) (by kernel_rfl) ?_
  refine wl_skip (by kernel_rfl) ?_
  refine wl_skip (by kernel_rfl) ?_
  refine wl_skip (by kernel_rfl) ?_
  refine wl_skip (by kernel_rfl) ?_
  refine wl_skip (by kernel_rfl) ?_
  refine wl_skip (by kernel_rfl) ?_
  refine wl_skip (by kernel_rfl) ?_
  refine wl_val (.bool true) (by kernel_rfl) (by kernel_rfl) ?_
  refine wl_nil ?_
  refine then_at (F := ⟨(.pointer none :: .string s :: un :: un :: iN .i64 0 :: .pointer none :: .bool true :: .bool true :: un :: un :: un :: un :: un :: un :: un :: .bool true :: List.replicate 9 un).toArray, []⟩) (by kernel_rfl) ?_
  refine wp_cond_true (by kernel_rfl) ?_
  refine wp_seq ?_
  refine wl_region ?_
  refine wl_val (iN .i64 0) (by kernel_rfl) (by kernel_rfl) ?_
  refine wl_nil ?_
  refine then_at (F := ⟨(.pointer none :: .string s :: un :: un :: iN .i64 0 :: .pointer none :: .bool true :: .bool true :: un :: un :: un :: un :: un :: un :: un :: .bool true :: List.replicate 9 un).toArray, []⟩) (by kernel_rfl) ?_
  refine wp_ret ?_
  repeat first | refine then_ret ?_ | refine block_ret ?_
  exact bodyPost_ret (v := iN .i64 0) (by kernel_rfl) rfl ⟨rfl, h2.old.old⟩
set_option linter.unusedVariables false in
set_option maxRecDepth 100000 in
set_option maxHeartbeats 2000000 in
theorem List_nil (s : ByteArray) (w : World) :
    Calls Try.prog 29 #[.pointer none, .string s] w fun e w' => e = .returned (.slice none 0 0) ∧ Below w.heap.size w w' := by
  have H0 := HA.start w
  go_enter Try.func29, Try.ntmps29
  refine wp_seq ?_
  refine wl_region ?_
  refine wl_val (.slice none 0 0) (by kernel_rfl) (by kernel_rfl) ?_
  refine wl_nil ?_
  refine then_at (F := ⟨(.pointer none :: .string s :: un :: un :: .slice none 0 0 :: List.replicate 24 un).toArray, []⟩) (by kernel_rfl) ?_
  refine wp_seq ?_
  refine wp_seq ?_
  refine wl_region ?_
  refine wl_val (.pointer none) (by kernel_rfl) (by kernel_rfl) ?_
  refine wl_call (v := .bool true) H0 (by kernel_rfl) enter59 #[.pointer none] (by kernel_rfl) (dark_nil w) ?_
  intro w1 h2
  refine wl_nil ?_
  refine then_at (F := ⟨(.pointer none :: .string s :: un :: un :: .slice none 0 0 :: un :: un :: .pointer none :: .bool true :: List.replicate 20 un).toArray, []⟩) (by kernel_rfl) ?_
  refine wp_cond_true (by kernel_rfl) ?_
  refine wp_seq ?_
  refine wl_region ?_
  refine wl_val (.slice none 0 0) (by kernel_rfl) (by kernel_rfl) ?_
  refine wl_nil ?_
  refine then_at (F := ⟨(.pointer none :: .string s :: un :: un :: .slice none 0 0 :: un :: un :: .pointer none :: .bool true :: List.replicate 20 un).toArray, []⟩) (by kernel_rfl) ?_
  refine wp_ret ?_
  repeat first | refine then_ret ?_ | refine block_ret ?_
  exact bodyPost_ret (v := .slice none 0 0) (by kernel_rfl) rfl ⟨rfl, h2.old.old⟩
set_option linter.unusedVariables false in
set_option maxRecDepth 100000 in
set_option maxHeartbeats 2000000 in
theorem Sizes_nil  (w : World) :
    Calls Try.prog 30 #[.pointer none] w fun e w' => e = .returned (.slice none 0 0) ∧ Below w.heap.size w w' := by
  have H0 := HA.start w
  go_enter Try.func30, Try.ntmps30
  refine wp_seq ?_
  refine wl_region ?_
  refine wl_val (.slice none 0 0) (by kernel_rfl) (by kernel_rfl) ?_
  refine wl_nil ?_
  refine then_at (F := ⟨(.pointer none :: un :: .slice none 0 0 :: List.replicate 7 un).toArray, []⟩) (by kernel_rfl) ?_
  refine wp_seq ?_
  refine wp_seq ?_
  refine wl_region ?_
  refine wl_val (.pointer none) (by kernel_rfl) (by kernel_rfl) ?_
  refine wl_call (v := .bool true) H0 (by kernel_rfl) enter50 #[.pointer none] (by kernel_rfl) (none_nil w) ?_
  intro w1 h2
  refine wl_nil ?_
  refine then_at (F := ⟨(.pointer none :: un :: .slice none 0 0 :: .pointer none :: .bool true :: List.replicate 5 un).toArray, []⟩) (by kernel_rfl) ?_
  refine wp_cond_true (by kernel_rfl) ?_
  refine wp_seq ?_
  refine wl_region ?_
  refine wl_val (.slice none 0 0) (by kernel_rfl) (by kernel_rfl) ?_
  refine wl_nil ?_
  refine then_at (F := ⟨(.pointer none :: un :: .slice none 0 0 :: .pointer none :: .bool true :: List.replicate 5 un).toArray, []⟩) (by kernel_rfl) ?_
  refine wp_ret ?_
  repeat first | refine then_ret ?_ | refine block_ret ?_
  exact bodyPost_ret (v := .slice none 0 0) (by kernel_rfl) rfl ⟨rfl, h2.old.old⟩
set_option linter.unusedVariables false in
set_option maxRecDepth 100000 in
set_option maxHeartbeats 2000000 in
theorem Copy_nil  (w : World) :
    Calls Try.prog 22 #[.pointer none] w fun e w' => e = .returned (.pointer none) ∧ Below w.heap.size w w' := by
  have H0 := HA.start w
  go_enter Try.func22, Try.ntmps22
  refine wp_seq ?_
  refine wl_region ?_
  refine wl_val (.pointer none) (by kernel_rfl) (by kernel_rfl) ?_
  refine wl_nil ?_
  refine then_at (F := ⟨(.pointer none :: un :: .pointer none :: List.replicate 45 un).toArray, []⟩) (by kernel_rfl) ?_
  refine wp_seq ?_
  refine wp_seq ?_
  refine wl_region ?_
  refine wl_val (.pointer none) (by kernel_rfl) (by kernel_rfl) ?_
  refine wl_call (v := .bool true) H0 (by kernel_rfl) enter50 #[.pointer none] (by kernel_rfl) (none_nil w) ?_
  intro w1 h2
  refine wl_nil ?_
  refine then_at (F := ⟨(.pointer none :: un :: .pointer none :: un :: un :: un :: .pointer none :: .bool true :: List.replicate 40 un).toArray, []⟩) (by kernel_rfl) ?_
  refine wp_cond_true (by kernel_rfl) ?_
  refine wp_seq ?_
  refine wl_region ?_
  refine wl_val (.pointer none) (by kernel_rfl) (by kernel_rfl) ?_
  refine wl_nil ?_
  refine then_at (F := ⟨(.pointer none :: un :: .pointer none :: un :: un :: un :: .pointer none :: .bool true :: List.replicate 40 un).toArray, []⟩) (by kernel_rfl) ?_
  refine wp_ret ?_
  repeat first | refine then_ret ?_ | refine block_ret ?_
  exact bodyPost_ret (v := .pointer none) (by kernel_rfl) rfl ⟨rfl, h2.old.old⟩
end Go.Proofs.Ytjedhnjjgmbcbaa
