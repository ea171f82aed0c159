/-
  none, Len, textOf.
-/
import Derived.Test.YtihfeoanognonaaTM
namespace Go.Proofs.Ytihfeoanognonaa
open Go.RowKit

set_option linter.unusedVariables false in
set_option maxRecDepth 100000 in
set_option maxHeartbeats 2000000 in
theorem none_no {w : World} {q : Nat} {t : Tb} {n : Nat} {v : Value} (hq : Blk w q 74 (tcell t n v)) :
    Calls Try.prog 36 #[pt q] w fun e w' => e = .returned (.bool false) ∧ Below w.heap.size w w' := by
  have H0 := HA.start w
  go_enter Try.func36, Try.ntmps36
  refine wp_seq ?_
  -- region 0
  refine wl_region ?_
  refine wl_val (.bool false) (by kernel_rfl) (by kernel_rfl) ?_
  refine wl_nil ?_
  refine then_at (F := ⟨(pt q :: un :: .bool false :: List.replicate 9 un).toArray, []⟩) (by kernel_rfl) ?_
  refine wp_seq ?_
  -- region 1
  refine wl_region ?_
  refine wl_val (.pointer (some ⟨q, 0, none⟩)) (by kernel_rfl) (by kernel_rfl) ?_
  refine wl_val (.bool false) (by kernel_rfl) (by kernel_rfl) ?_
  refine wl_val (.bool false) (by kernel_rfl) (by kernel_rfl) ?_
  refine wl_val (.pointer (some ⟨q, 0, none⟩)) (by kernel_rfl) (by kernel_rfl) ?_
  refine wl_val (.pointer (some ⟨q, 0, none⟩)) (by kernel_rfl) (by kernel_rfl) ?_
  refine wl_val (.pointer (some ⟨q, 2, none⟩)) (by kernel_rfl) (by kernel_rfl) ?_
  refine wl_val (.map (some t.mb)) (by kernel_rfl) (run_load1 (fun w => Try.isAgg71 w) (by kernel_rfl) (((hq.keep H0.old.old).cell 2).trans rfl)) ?_
  refine wl_val (.bool false) (by kernel_rfl) (by kernel_rfl) ?_
  refine wl_val (.bool false) (by kernel_rfl) (by kernel_rfl) ?_
  refine wl_val (.bool false) (by kernel_rfl) (by kernel_rfl) ?_
  refine wl_nil ?_
  refine then_at (F := ⟨(pt q :: un :: .bool false :: pt q :: .bool false :: .bool false :: pt q :: pt q :: .pointer (some ⟨q, 2, none⟩) :: .map (some t.mb) :: .bool false :: .bool false :: List.replicate 0 un).toArray, []⟩) (by kernel_rfl) ?_
  refine wp_ret ?_
  repeat first | refine then_ret ?_ | refine block_ret ?_
  exact bodyPost_ret (v := .bool false) (by kernel_rfl) rfl ⟨rfl, H0.old.old⟩
set_option linter.unusedVariables false in
set_option maxRecDepth 100000 in
set_option maxHeartbeats 2000000 in
theorem none_nil (w : World) :
    Calls Try.prog 36 #[.pointer none] w fun e w' => e = .returned (.bool true) ∧ Below w.heap.size w w' := by
  have H0 := HA.start w
  go_enter Try.func36, Try.ntmps36
  refine wp_seq ?_
  -- region 0
  refine wl_region ?_
  refine wl_val (.bool false) (by kernel_rfl) (by kernel_rfl) ?_
  refine wl_nil ?_
  refine then_at (F := ⟨(.pointer none :: un :: .bool false :: List.replicate 9 un).toArray, []⟩) (by kernel_rfl) ?_
  refine wp_seq ?_
  -- region 1
  refine wl_region ?_
  refine wl_val (.pointer none) (by kernel_rfl) (by kernel_rfl) ?_
  refine wl_val (.bool true) (by kernel_rfl) (by kernel_rfl) ?_
  refine wl_val (.bool true) (by kernel_rfl) (by kernel_rfl) ?_
  refine wl_skip (by kernel_rfl) ?_
  refine wl_skip (by kernel_rfl) ?_
  refine wl_skip (by kernel_rfl) ?_
  refine wl_skip (by kernel_rfl) ?_
  refine wl_skip (by kernel_rfl) ?_
  refine wl_val (.bool true) (by kernel_rfl) (by kernel_rfl) ?_
  refine wl_val (.bool true) (by kernel_rfl) (by kernel_rfl) ?_
  refine wl_nil ?_
  refine then_at (F := ⟨(.pointer none :: un :: .bool true :: .pointer none :: .bool true :: .bool true :: un :: un :: un :: un :: un :: .bool true :: List.replicate 0 un).toArray, []⟩) (by kernel_rfl) ?_
  refine wp_ret ?_
  repeat first | refine then_ret ?_ | refine block_ret ?_
  exact bodyPost_ret (v := .bool true) (by kernel_rfl) rfl ⟨rfl, H0.old.old⟩
set_option linter.unusedVariables false in
set_option maxRecDepth 100000 in
set_option maxHeartbeats 2000000 in
theorem Len_any {w : World} {q : Nat} {t : Tb} {n m c : Nat} {p : Option Addr} (hq : Blk w q 74 (tcell t n (.slice p m c))) :
    Calls Try.prog 20 #[pt q] w fun e w' => e = .returned (iN .i64 m) ∧ Below w.heap.size w w' := by
  have H0 := HA.start w
  go_enter Try.func20, Try.ntmps20
  refine wp_seq ?_
  -- region 0
  refine wl_region ?_
  refine wl_val (iN .i64 0) (by kernel_rfl) (by kernel_rfl) ?_
  refine wl_nil ?_
  refine then_at (F := ⟨(pt q :: un :: iN .i64 0 :: List.replicate 7 un).toArray, []⟩) (by kernel_rfl) ?_
  refine wp_seq ?_
  refine wp_seq ?_
  -- region 1
  refine wl_region ?_
  refine wl_val (.pointer (some ⟨q, 0, none⟩)) (by kernel_rfl) (by kernel_rfl) ?_
  refine wl_call (v := .bool false) H0 (by kernel_rfl) enter36 #[.pointer (some ⟨q, 0, none⟩)] (by kernel_rfl) (none_no (hq.keep H0.old.old)) ?_
  intro w1 h2
  refine wl_nil ?_
  refine then_at (F := ⟨(pt q :: un :: iN .i64 0 :: pt q :: .bool false :: List.replicate 5 un).toArray, []⟩) (by kernel_rfl) ?_
  refine wp_cond_false (by kernel_rfl) ?_
  refine wp_skip ?_
  refine then_at (F := ⟨(pt q :: un :: iN .i64 0 :: pt q :: .bool false :: List.replicate 5 un).toArray, []⟩) (by kernel_rfl) ?_
  refine wp_seq ?_
  -- region 3
  refine wl_region ?_
  refine wl_val (.pointer (some ⟨q, 0, none⟩)) (by kernel_rfl) (by kernel_rfl) ?_
  refine wl_val (.pointer (some ⟨q, 0, none⟩)) (by kernel_rfl) (by kernel_rfl) ?_
  refine wl_val (.pointer (some ⟨q, 0, none⟩)) (by kernel_rfl) (by kernel_rfl) ?_
  refine wl_val (.slice p m c) (by kernel_rfl) (run_load1 (fun w => Try.isAgg70 w) (by kernel_rfl) (((hq.keep h2.old.old).cell 0).trans rfl)) ?_
  refine wl_val (iN .i64 m) (by kernel_rfl) (by kernel_rfl) ?_
  refine wl_val (iN .i64 m) (by kernel_rfl) (by kernel_rfl) ?_
  refine wl_nil ?_
  refine then_at (F := ⟨(pt q :: un :: iN .i64 m :: pt q :: .bool false :: pt q :: pt q :: pt q :: .slice p m c :: iN .i64 m :: List.replicate 0 un).toArray, []⟩) (by kernel_rfl) ?_
  refine wp_ret ?_
  repeat first | refine then_ret ?_ | refine block_ret ?_
  exact bodyPost_ret (v := iN .i64 m) (by kernel_rfl) rfl ⟨rfl, h2.old.old⟩
set_option linter.unusedVariables false in
set_option maxRecDepth 100000 in
set_option maxHeartbeats 2000000 in
theorem Len_nil (w : World) :
    Calls Try.prog 20 #[.pointer none] w fun e w' => e = .returned (iN .i64 0) ∧ Below w.heap.size w w' := by
  have H0 := HA.start w
  go_enter Try.func20, Try.ntmps20
  refine wp_seq ?_
  -- region 0
  refine wl_region ?_
  refine wl_val (iN .i64 0) (by kernel_rfl) (by kernel_rfl) ?_
  refine wl_nil ?_
  refine then_at (F := ⟨(.pointer none :: un :: iN .i64 0 :: List.replicate 7 un).toArray, []⟩) (by kernel_rfl) ?_
  refine wp_seq ?_
  refine wp_seq ?_
  -- region 1
  refine wl_region ?_
  refine wl_val (.pointer none) (by kernel_rfl) (by kernel_rfl) ?_
  refine wl_call (v := .bool true) H0 (by kernel_rfl) enter36 #[.pointer none] (by kernel_rfl) (none_nil w) ?_
  intro w1 h2
  refine wl_nil ?_
  refine then_at (F := ⟨(.pointer none :: un :: iN .i64 0 :: .pointer none :: .bool true :: List.replicate 5 un).toArray, []⟩) (by kernel_rfl) ?_
  refine wp_cond_true (by kernel_rfl) ?_
  refine wp_seq ?_
  -- region 2
  refine wl_region ?_
  refine wl_val (iN .i64 0) (by kernel_rfl) (by kernel_rfl) ?_
  refine wl_nil ?_
  refine then_at (F := ⟨(.pointer none :: un :: iN .i64 0 :: .pointer none :: .bool true :: List.replicate 5 un).toArray, []⟩) (by kernel_rfl) ?_
  refine wp_ret ?_
  repeat first | refine then_ret ?_ | refine block_ret ?_
  exact bodyPost_ret (v := iN .i64 0) (by kernel_rfl) rfl ⟨rfl, h2.old.old⟩
def hdS : ByteArray := { data := #[240, 84, 82, 77] }
def txt (n : Nat) : ByteArray := putS hdS n
set_option linter.unusedVariables false in
set_option maxRecDepth 100000 in
set_option maxHeartbeats 2000000 in
theorem textOf_any (n : Nat) (hn : n < 9223372036854775808) (w : World) :
    Calls Try.prog 38 #[iN .i64 n] w fun e w' => e = .returned (.string (txt n)) ∧ Below w.heap.size w w' := by
  have H0 := HA.start w
  go_enter Try.func38, Try.ntmps38
  refine wp_seq ?_
  -- region 0
  refine wl_region ?_
  refine wl_val (.string ({ data := #[] })) (by kernel_rfl) (by kernel_rfl) ?_
  refine wl_nil ?_
  refine then_at (F := ⟨(iN .i64 n :: un :: .string ({ data := #[] }) :: List.replicate 3 un).toArray, []⟩) (by kernel_rfl) ?_
  refine wp_seq ?_
  -- region 1
  refine wl_region ?_
  refine wl_val (iN .i64 n) (by kernel_rfl) (by kernel_rfl) ?_
  refine wl_val (iN .u64 n) (by kernel_rfl) (run_conv .u64 Try.underlying3 Try.underlying77 (by kernel_rfl) (by simp only [top]; omega)) ?_
  refine wl_call (v := .string (putS ({ data := #[240, 84, 82, 77] }) n)) H0 (by kernel_rfl) enter48 #[.string ({ data := #[240, 84, 82, 77] }), iN .i64 4, iN .u64 n] (by kernel_rfl) (PutNumber_4 ({ data := #[240, 84, 82, 77] }) n (by decide) (by omega) w) ?_
  intro w1 h2
  refine wl_val (.string (putS ({ data := #[240, 84, 82, 77] }) n)) (by kernel_rfl) (by kernel_rfl) ?_
  refine wl_nil ?_
  refine then_at (F := ⟨(iN .i64 n :: un :: .string (putS ({ data := #[240, 84, 82, 77] }) n) :: iN .i64 n :: iN .u64 n :: .string (putS ({ data := #[240, 84, 82, 77] }) n) :: List.replicate 0 un).toArray, []⟩) (by kernel_rfl) ?_
  refine wp_ret ?_
  repeat first | refine then_ret ?_ | refine block_ret ?_
  exact bodyPost_ret (v := .string (txt n)) (by kernel_rfl) rfl ⟨rfl, h2.old.old⟩
set_option linter.unusedVariables false in
set_option maxRecDepth 100000 in
set_option maxHeartbeats 2000000 in
theorem name_any (n : Nat) (hn : n < 9223372036854775808) (w : World) :
    Calls Try.prog 22 #[iN .i64 n] w fun e w' => e = .returned (.string (txt n)) ∧ Below w.heap.size w w' := by
  have H0 := HA.start w
  go_enter Try.func22, Try.ntmps22
  refine wp_seq ?_
  -- region 0
  refine wl_region ?_
  refine wl_val (.string ({ data := #[] })) (by kernel_rfl) (by kernel_rfl) ?_
  refine wl_nil ?_
  refine then_at (F := ⟨(iN .i64 n :: un :: .string ({ data := #[] }) :: List.replicate 3 un).toArray, []⟩) (by kernel_rfl) ?_
  refine wp_seq ?_
  -- region 1
  refine wl_region ?_
  refine wl_val (iN .i64 n) (by kernel_rfl) (by kernel_rfl) ?_
  refine wl_val (iN .u64 n) (by kernel_rfl) (run_conv .u64 Try.underlying3 Try.underlying77 (by kernel_rfl) (by simp only [top]; omega)) ?_
  refine wl_call (v := .string (putS ({ data := #[240, 84, 82, 77] }) n)) H0 (by kernel_rfl) enter48 #[.string ({ data := #[240, 84, 82, 77] }), iN .i64 4, iN .u64 n] (by kernel_rfl) (PutNumber_4 ({ data := #[240, 84, 82, 77] }) n (by decide) (by omega) w) ?_
  intro w1 h2
  refine wl_val (.string (putS ({ data := #[240, 84, 82, 77] }) n)) (by kernel_rfl) (by kernel_rfl) ?_
  refine wl_nil ?_
  refine then_at (F := ⟨(iN .i64 n :: un :: .string (putS ({ data := #[240, 84, 82, 77] }) n) :: iN .i64 n :: iN .u64 n :: .string (putS ({ data := #[240, 84, 82, 77] }) n) :: List.replicate 0 un).toArray, []⟩) (by kernel_rfl) ?_
  refine wp_ret ?_
  repeat first | refine then_ret ?_ | refine block_ret ?_
  exact bodyPost_ret (v := .string (txt n)) (by kernel_rfl) rfl ⟨rfl, h2.old.old⟩
end Go.Proofs.Ytihfeoanognonaa
