/-
  none, Len, textOf.
-/
import Derived.Test.YtcjjbpbehapjpaaGreatTM
namespace Go.Proofs.YtcjjbpbehapjpaaGreat
open Go.RowKit

set_option linter.unusedVariables false in
set_option maxRecDepth 100000 in
set_option maxHeartbeats 2000000 in
theorem none_no {w : World} {q : Nat} {t : Tb} {n : Nat} {v : Value} (hq : Blk w q 154 (tcell t n v)) :
    Calls Tryz.prog 73 #[pt q] w fun e w' => e = .returned (.bool false) ∧ Below w.heap.size w w' := by
  have H0 := HA.start w
  go_enter Tryz.func73, Tryz.ntmps73
  refine wp_seq (wl_region ?_)
  refine zv (.bool false) ?_
  refine wl_nil ?_
  refine then_at (F := ⟨(pt q :: un :: .bool false :: List.replicate 9 un).toArray, []⟩) (by kernel_rfl) ?_
  refine wp_seq (wl_region ?_)
  refine zv (.pointer (some ⟨q, 0, none⟩)) ?_
  refine zv (.bool false) ?_
  refine zv (.bool false) ?_
  refine zv (.pointer (some ⟨q, 0, none⟩)) ?_
  refine zv (.pointer (some ⟨q, 0, none⟩)) ?_
  refine zv (.pointer (some ⟨q, 2, none⟩)) ?_
  refine zu (.map (some t.mb)) (run_load1 (fun w => Tryz.isAgg151 w) (by kernel_rfl) (((hq.keep H0.old.old).cell 2).trans rfl)) ?_
  refine zv (.bool false) ?_
  refine zv (.bool false) ?_
  refine zv (.bool false) ?_
  refine wl_nil ?_
  refine then_at (F := ⟨(pt q :: un :: .bool false :: pt q :: .bool false :: .bool false :: pt q :: pt q :: .pointer (some ⟨q, 2, none⟩) :: .map (some t.mb) :: .bool false :: .bool false :: List.replicate 0 un).toArray, []⟩) (by kernel_rfl) ?_
  refine wp_ret ?_
  repeat first | refine then_ret ?_ | refine block_ret ?_
  exact bodyPost_ret (v := .bool false) (by kernel_rfl) rfl ⟨rfl, H0.old.old⟩
set_option linter.unusedVariables false in
set_option maxRecDepth 100000 in
set_option maxHeartbeats 2000000 in
theorem Len_any {w : World} {q : Nat} {t : Tb} {n m c : Nat} {p : Option Addr} (hq : Blk w q 154 (tcell t n (.slice p m c))) :
    Calls Tryz.prog 128 #[pt q] w fun e w' => e = .returned (iN .i64 m) ∧ Below w.heap.size w w' := by
  have H0 := HA.start w
  go_enter Tryz.func128, Tryz.ntmps128
  refine wp_seq (wl_region ?_)
  refine zv (iN .i64 0) ?_
  refine wl_nil ?_
  refine then_at (F := ⟨(pt q :: un :: iN .i64 0 :: List.replicate 7 un).toArray, []⟩) (by kernel_rfl) ?_
  refine wp_seq (wp_seq (wl_region ?_))
  refine zv (.pointer (some ⟨q, 0, none⟩)) ?_
  refine wl_call (v := .bool false) H0 (by kernel_rfl) enter73 #[.pointer (some ⟨q, 0, none⟩)] (by kernel_rfl) (none_no (hq.keep H0.old.old)) ?_
  intro w1 h2
  refine wl_nil ?_
  refine then_at (F := ⟨(pt q :: un :: iN .i64 0 :: pt q :: .bool false :: List.replicate 5 un).toArray, []⟩) (by kernel_rfl) ?_
  refine wp_cond_false (by kernel_rfl) ?_
  refine wp_skip ?_
  refine then_at (F := ⟨(pt q :: un :: iN .i64 0 :: pt q :: .bool false :: List.replicate 5 un).toArray, []⟩) (by kernel_rfl) ?_
  refine wp_seq (wl_region ?_)
  refine zv (.pointer (some ⟨q, 0, none⟩)) ?_
  refine zv (.pointer (some ⟨q, 0, none⟩)) ?_
  refine zv (.pointer (some ⟨q, 0, none⟩)) ?_
  refine zu (.slice p m c) (run_load1 (fun w => Tryz.isAgg150 w) (by kernel_rfl) (((hq.keep h2.old.old).cell 0).trans rfl)) ?_
  refine zv (iN .i64 m) ?_
  refine zv (iN .i64 m) ?_
  refine wl_nil ?_
  refine then_at (F := ⟨(pt q :: un :: iN .i64 m :: pt q :: .bool false :: pt q :: pt q :: pt q :: .slice p m c :: iN .i64 m :: List.replicate 0 un).toArray, []⟩) (by kernel_rfl) ?_
  refine wp_ret ?_
  repeat first | refine then_ret ?_ | refine block_ret ?_
  exact bodyPost_ret (v := iN .i64 m) (by kernel_rfl) rfl ⟨rfl, h2.old.old⟩
def hdS : ByteArray := { data := #[240, 84, 82, 77] }
def txt (n : Nat) : ByteArray := putS hdS n
set_option linter.unusedVariables false in
set_option maxRecDepth 100000 in
set_option maxHeartbeats 2000000 in
theorem textOf_any (n : Nat) (hn : n < 9223372036854775808) (w : World) :
    Calls Tryz.prog 316 #[iN .i64 n] w fun e w' => e = .returned (.string (txt n)) ∧ Below w.heap.size w w' := by
  have H0 := HA.start w
  go_enter Tryz.func316, Tryz.ntmps316
  refine wp_seq (wl_region ?_)
  refine zv (.string ({ data := #[] })) ?_
  refine wl_nil ?_
  refine then_at (F := ⟨(iN .i64 n :: un :: .string ({ data := #[] }) :: List.replicate 3 un).toArray, []⟩) (by kernel_rfl) ?_
  refine wp_seq (wl_region ?_)
  refine zv (iN .i64 n) ?_
  refine zu (iN .u64 n) (run_conv .u64 Tryz.underlying3 Tryz.underlying117 (by kernel_rfl) (by simp only [top]; omega)) ?_
  refine wl_call (v := .string (putS ({ data := #[240, 84, 82, 77] }) n)) H0 (by kernel_rfl) enter94 #[.string ({ data := #[240, 84, 82, 77] }), iN .i64 4, iN .u64 n] (by kernel_rfl) (PutNumber_4 ({ data := #[240, 84, 82, 77] }) n (by decide) (by omega) w) ?_
  intro w1 h2
  refine zv (.string (putS ({ data := #[240, 84, 82, 77] }) n)) ?_
  refine wl_nil ?_
  refine then_at (F := ⟨(iN .i64 n :: un :: .string (putS ({ data := #[240, 84, 82, 77] }) n) :: iN .i64 n :: iN .u64 n :: .string (putS ({ data := #[240, 84, 82, 77] }) n) :: List.replicate 0 un).toArray, []⟩) (by kernel_rfl) ?_
  refine wp_ret ?_
  repeat first | refine then_ret ?_ | refine block_ret ?_
  exact bodyPost_ret (v := .string (txt n)) (by kernel_rfl) rfl ⟨rfl, h2.old.old⟩
end Go.Proofs.YtcjjbpbehapjpaaGreat
