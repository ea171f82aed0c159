/-
  Words.
-/
import Derived.Test.YthljhhhjdajfhaaAM
namespace Go.Proofs.Ythljhhhjdajfhaa
open Go.RowKit

theorem addr_eq {ρ : Operand → Value} {o : Oper} {w : World} {q a b : Nat} (h : a = b) (hr : (execOp ρ o).run Try.prog w = .ok (.value (.pointer (some ⟨q, a, none⟩))) w) : (execOp ρ o).run Try.prog w = .ok (.value (.pointer (some ⟨q, b, none⟩))) w := h ▸ hr

set_option linter.unusedVariables false in
set_option maxRecDepth 100000 in
set_option maxHeartbeats 2000000 in
theorem rot8 (x : BitVec 32) (w : World) :
    Calls Try.prog 28 #[bv .u32 x, iN .i64 8] w fun e w' => e = .returned (bv .u32 (rlW x 8)) ∧ Below w.heap.size w w' := by
  have H0 := HA.start w
  go_enter Try.func28, Try.ntmps28
  refine wp_seq ?_
  -- region 0
  refine wl_region ?_
  refine wl_val (bv .u32 0#32) (by kernel_rfl) (by kernel_rfl) ?_
  refine wl_nil ?_
  refine then_at (F := ⟨(bv .u32 x :: iN .i64 8 :: un :: un :: bv .u32 0#32 :: List.replicate 12 un).toArray, []⟩) (by kernel_rfl) ?_
  refine wp_seq ?_
  -- region 1
  refine wl_region ?_
  refine wl_val (iN .i64 8) (by kernel_rfl) (by kernel_rfl) ?_
  refine wl_val (iN .u64 8) (by kernel_rfl) (run_conv .u64 Try.underlying3 Try.underlying55 (by kernel_rfl) (by simp only [top]; omega)) ?_
  refine wl_val (iN .u64 8) (by kernel_rfl) (run_and64 (a := 8) (b := 31) (by kernel_rfl) (by kernel_rfl) (by decide) (by decide)) ?_
  refine wl_val (iN .u64 8) (by kernel_rfl) (by kernel_rfl) ?_
  refine wl_nil ?_
  refine then_at (F := ⟨(bv .u32 x :: iN .i64 8 :: un :: un :: bv .u32 0#32 :: iN .u64 8 :: iN .i64 8 :: iN .u64 8 :: iN .u64 8 :: List.replicate 8 un).toArray, []⟩) (by kernel_rfl) ?_
  refine wp_seq ?_
  -- region 2
  refine wl_region ?_
  refine wl_val (bv .u32 x) (by kernel_rfl) (by kernel_rfl) ?_
  refine wl_val (iN .u64 8) (by kernel_rfl) (by kernel_rfl) ?_
  refine wl_val (bv .u32 (x <<< 8)) (by kernel_rfl) (run_shlv (k2 := .u64) (m := 8) WK.s (a := x) (by kernel_rfl) (by kernel_rfl) (by decide)) ?_
  refine wl_val (bv .u32 x) (by kernel_rfl) (by kernel_rfl) ?_
  refine wl_val (iN .u64 8) (by kernel_rfl) (by kernel_rfl) ?_
  refine wl_val (iN .u64 24) (by kernel_rfl) (run_sub (k := .u64) (a := 32) (b := 8) (by kernel_rfl) (by kernel_rfl) (by decide) (by decide)) ?_
  refine wl_val (bv .u32 (x >>> 24)) (by kernel_rfl) (run_shrv (k2 := .u64) (m := 24) WK.s (a := x) (by kernel_rfl) (by kernel_rfl)) ?_
  refine wl_val (bv .u32 ((x <<< 8) ||| (x >>> 24))) (by kernel_rfl) (run_orv WK.s (a := x <<< 8) (b := x >>> 24) (by kernel_rfl) (by kernel_rfl)) ?_
  refine wl_val (bv .u32 ((x <<< 8) ||| (x >>> 24))) (by kernel_rfl) (by kernel_rfl) ?_
  refine wl_nil ?_
  refine then_at (F := ⟨(bv .u32 x :: iN .i64 8 :: un :: un :: bv .u32 ((x <<< 8) ||| (x >>> 24)) :: iN .u64 8 :: iN .i64 8 :: iN .u64 8 :: iN .u64 8 :: bv .u32 x :: iN .u64 8 :: bv .u32 (x <<< 8) :: bv .u32 x :: iN .u64 8 :: iN .u64 24 :: bv .u32 (x >>> 24) :: bv .u32 ((x <<< 8) ||| (x >>> 24)) :: List.replicate 0 un).toArray, []⟩) (by kernel_rfl) ?_
  refine wp_ret ?_
  repeat first | refine then_ret ?_ | refine block_ret ?_
  exact bodyPost_ret (v := bv .u32 (rlW x 8)) (by kernel_rfl) rfl ⟨rfl, H0.old⟩

set_option linter.unusedVariables false in
set_option maxRecDepth 100000 in
set_option maxHeartbeats 2000000 in
theorem rot16 (x : BitVec 32) (w : World) :
    Calls Try.prog 28 #[bv .u32 x, iN .i64 16] w fun e w' => e = .returned (bv .u32 (rlW x 16)) ∧ Below w.heap.size w w' := by
  have H0 := HA.start w
  go_enter Try.func28, Try.ntmps28
  refine wp_seq ?_
  -- region 0
  refine wl_region ?_
  refine wl_val (bv .u32 0#32) (by kernel_rfl) (by kernel_rfl) ?_
  refine wl_nil ?_
  refine then_at (F := ⟨(bv .u32 x :: iN .i64 16 :: un :: un :: bv .u32 0#32 :: List.replicate 12 un).toArray, []⟩) (by kernel_rfl) ?_
  refine wp_seq ?_
  -- region 1
  refine wl_region ?_
  refine wl_val (iN .i64 16) (by kernel_rfl) (by kernel_rfl) ?_
  refine wl_val (iN .u64 16) (by kernel_rfl) (run_conv .u64 Try.underlying3 Try.underlying55 (by kernel_rfl) (by simp only [top]; omega)) ?_
  refine wl_val (iN .u64 16) (by kernel_rfl) (run_and64 (a := 16) (b := 31) (by kernel_rfl) (by kernel_rfl) (by decide) (by decide)) ?_
  refine wl_val (iN .u64 16) (by kernel_rfl) (by kernel_rfl) ?_
  refine wl_nil ?_
  refine then_at (F := ⟨(bv .u32 x :: iN .i64 16 :: un :: un :: bv .u32 0#32 :: iN .u64 16 :: iN .i64 16 :: iN .u64 16 :: iN .u64 16 :: List.replicate 8 un).toArray, []⟩) (by kernel_rfl) ?_
  refine wp_seq ?_
  -- region 2
  refine wl_region ?_
  refine wl_val (bv .u32 x) (by kernel_rfl) (by kernel_rfl) ?_
  refine wl_val (iN .u64 16) (by kernel_rfl) (by kernel_rfl) ?_
  refine wl_val (bv .u32 (x <<< 16)) (by kernel_rfl) (run_shlv (k2 := .u64) (m := 16) WK.s (a := x) (by kernel_rfl) (by kernel_rfl) (by decide)) ?_
  refine wl_val (bv .u32 x) (by kernel_rfl) (by kernel_rfl) ?_
  refine wl_val (iN .u64 16) (by kernel_rfl) (by kernel_rfl) ?_
  refine wl_val (iN .u64 16) (by kernel_rfl) (run_sub (k := .u64) (a := 32) (b := 16) (by kernel_rfl) (by kernel_rfl) (by decide) (by decide)) ?_
  refine wl_val (bv .u32 (x >>> 16)) (by kernel_rfl) (run_shrv (k2 := .u64) (m := 16) WK.s (a := x) (by kernel_rfl) (by kernel_rfl)) ?_
  refine wl_val (bv .u32 ((x <<< 16) ||| (x >>> 16))) (by kernel_rfl) (run_orv WK.s (a := x <<< 16) (b := x >>> 16) (by kernel_rfl) (by kernel_rfl)) ?_
  refine wl_val (bv .u32 ((x <<< 16) ||| (x >>> 16))) (by kernel_rfl) (by kernel_rfl) ?_
  refine wl_nil ?_
  refine then_at (F := ⟨(bv .u32 x :: iN .i64 16 :: un :: un :: bv .u32 ((x <<< 16) ||| (x >>> 16)) :: iN .u64 16 :: iN .i64 16 :: iN .u64 16 :: iN .u64 16 :: bv .u32 x :: iN .u64 16 :: bv .u32 (x <<< 16) :: bv .u32 x :: iN .u64 16 :: iN .u64 16 :: bv .u32 (x >>> 16) :: bv .u32 ((x <<< 16) ||| (x >>> 16)) :: List.replicate 0 un).toArray, []⟩) (by kernel_rfl) ?_
  refine wp_ret ?_
  repeat first | refine then_ret ?_ | refine block_ret ?_
  exact bodyPost_ret (v := bv .u32 (rlW x 16)) (by kernel_rfl) rfl ⟨rfl, H0.old⟩

set_option linter.unusedVariables false in
set_option maxRecDepth 100000 in
set_option maxHeartbeats 2000000 in
theorem rot24 (x : BitVec 32) (w : World) :
    Calls Try.prog 28 #[bv .u32 x, iN .i64 24] w fun e w' => e = .returned (bv .u32 (rlW x 24)) ∧ Below w.heap.size w w' := by
  have H0 := HA.start w
  go_enter Try.func28, Try.ntmps28
  refine wp_seq ?_
  -- region 0
  refine wl_region ?_
  refine wl_val (bv .u32 0#32) (by kernel_rfl) (by kernel_rfl) ?_
  refine wl_nil ?_
  refine then_at (F := ⟨(bv .u32 x :: iN .i64 24 :: un :: un :: bv .u32 0#32 :: List.replicate 12 un).toArray, []⟩) (by kernel_rfl) ?_
  refine wp_seq ?_
  -- region 1
  refine wl_region ?_
  refine wl_val (iN .i64 24) (by kernel_rfl) (by kernel_rfl) ?_
  refine wl_val (iN .u64 24) (by kernel_rfl) (run_conv .u64 Try.underlying3 Try.underlying55 (by kernel_rfl) (by simp only [top]; omega)) ?_
  refine wl_val (iN .u64 24) (by kernel_rfl) (run_and64 (a := 24) (b := 31) (by kernel_rfl) (by kernel_rfl) (by decide) (by decide)) ?_
  refine wl_val (iN .u64 24) (by kernel_rfl) (by kernel_rfl) ?_
  refine wl_nil ?_
  refine then_at (F := ⟨(bv .u32 x :: iN .i64 24 :: un :: un :: bv .u32 0#32 :: iN .u64 24 :: iN .i64 24 :: iN .u64 24 :: iN .u64 24 :: List.replicate 8 un).toArray, []⟩) (by kernel_rfl) ?_
  refine wp_seq ?_
  -- region 2
  refine wl_region ?_
  refine wl_val (bv .u32 x) (by kernel_rfl) (by kernel_rfl) ?_
  refine wl_val (iN .u64 24) (by kernel_rfl) (by kernel_rfl) ?_
  refine wl_val (bv .u32 (x <<< 24)) (by kernel_rfl) (run_shlv (k2 := .u64) (m := 24) WK.s (a := x) (by kernel_rfl) (by kernel_rfl) (by decide)) ?_
  refine wl_val (bv .u32 x) (by kernel_rfl) (by kernel_rfl) ?_
  refine wl_val (iN .u64 24) (by kernel_rfl) (by kernel_rfl) ?_
  refine wl_val (iN .u64 8) (by kernel_rfl) (run_sub (k := .u64) (a := 32) (b := 24) (by kernel_rfl) (by kernel_rfl) (by decide) (by decide)) ?_
  refine wl_val (bv .u32 (x >>> 8)) (by kernel_rfl) (run_shrv (k2 := .u64) (m := 8) WK.s (a := x) (by kernel_rfl) (by kernel_rfl)) ?_
  refine wl_val (bv .u32 ((x <<< 24) ||| (x >>> 8))) (by kernel_rfl) (run_orv WK.s (a := x <<< 24) (b := x >>> 8) (by kernel_rfl) (by kernel_rfl)) ?_
  refine wl_val (bv .u32 ((x <<< 24) ||| (x >>> 8))) (by kernel_rfl) (by kernel_rfl) ?_
  refine wl_nil ?_
  refine then_at (F := ⟨(bv .u32 x :: iN .i64 24 :: un :: un :: bv .u32 ((x <<< 24) ||| (x >>> 8)) :: iN .u64 24 :: iN .i64 24 :: iN .u64 24 :: iN .u64 24 :: bv .u32 x :: iN .u64 24 :: bv .u32 (x <<< 24) :: bv .u32 x :: iN .u64 24 :: iN .u64 8 :: bv .u32 (x >>> 8) :: bv .u32 ((x <<< 24) ||| (x >>> 8)) :: List.replicate 0 un).toArray, []⟩) (by kernel_rfl) ?_
  refine wp_ret ?_
  repeat first | refine then_ret ?_ | refine block_ret ?_
  exact bodyPost_ret (v := bv .u32 (rlW x 24)) (by kernel_rfl) rfl ⟨rfl, H0.old⟩

set_option linter.unusedVariables false in
set_option maxRecDepth 100000 in
set_option maxHeartbeats 2000000 in
theorem wordOf_any (s : ByteArray) (hs : s.size = 4) (w : World) :
    Calls Try.prog 27 #[.string s] w fun e w' => e = .returned (bv .u32 (wS s)) ∧ Below w.heap.size w w' := by
  have H0 := HA.start w
  go_enter Try.func27, Try.ntmps27
  refine wp_seq ?_
  -- region 0
  refine wl_region ?_
  refine wl_val (bv .u32 0#32) (by kernel_rfl) (by kernel_rfl) ?_
  refine wl_nil ?_
  refine then_at (F := ⟨(.string s :: un :: bv .u32 0#32 :: List.replicate 18 un).toArray, []⟩) (by kernel_rfl) ?_
  refine wp_seq ?_
  -- region 1
  refine wp_region_sure ⟨(.string s :: un :: bv .u32 (((((BitVec.ofNat 32 ((bl s).getD (0) 0).toNat) <<< 24) ||| ((BitVec.ofNat 32 ((bl s).getD (1) 0).toNat) <<< 16)) ||| ((BitVec.ofNat 32 ((bl s).getD (2) 0).toNat) <<< 8)) ||| (BitVec.ofNat 32 ((bl s).getD (3) 0).toNat)) :: .string s :: by8 ((bl s).getD (0) 0) :: bv .u32 (BitVec.ofNat 32 ((bl s).getD (0) 0).toNat) :: bv .u32 ((BitVec.ofNat 32 ((bl s).getD (0) 0).toNat) <<< 24) :: .string s :: by8 ((bl s).getD (1) 0) :: bv .u32 (BitVec.ofNat 32 ((bl s).getD (1) 0).toNat) :: bv .u32 ((BitVec.ofNat 32 ((bl s).getD (1) 0).toNat) <<< 16) :: bv .u32 (((BitVec.ofNat 32 ((bl s).getD (0) 0).toNat) <<< 24) ||| ((BitVec.ofNat 32 ((bl s).getD (1) 0).toNat) <<< 16)) :: .string s :: by8 ((bl s).getD (2) 0) :: bv .u32 (BitVec.ofNat 32 ((bl s).getD (2) 0).toNat) :: bv .u32 ((BitVec.ofNat 32 ((bl s).getD (2) 0).toNat) <<< 8) :: bv .u32 ((((BitVec.ofNat 32 ((bl s).getD (0) 0).toNat) <<< 24) ||| ((BitVec.ofNat 32 ((bl s).getD (1) 0).toNat) <<< 16)) ||| ((BitVec.ofNat 32 ((bl s).getD (2) 0).toNat) <<< 8)) :: .string s :: by8 ((bl s).getD (3) 0) :: bv .u32 (BitVec.ofNat 32 ((bl s).getD (3) 0).toNat) :: bv .u32 (((((BitVec.ofNat 32 ((bl s).getD (0) 0).toNat) <<< 24) ||| ((BitVec.ofNat 32 ((bl s).getD (1) 0).toNat) <<< 16)) ||| ((BitVec.ofNat 32 ((bl s).getD (2) 0).toNat) <<< 8)) ||| (BitVec.ofNat 32 ((bl s).getD (3) 0).toNat)) :: List.replicate 0 un).toArray, []⟩ (HA w []) [.string s, by8 ((bl s).getD (0) 0), bv .u32 (BitVec.ofNat 32 ((bl s).getD (0) 0).toNat), bv .u32 ((BitVec.ofNat 32 ((bl s).getD (0) 0).toNat) <<< 24), .string s, by8 ((bl s).getD (1) 0), bv .u32 (BitVec.ofNat 32 ((bl s).getD (1) 0).toNat), bv .u32 ((BitVec.ofNat 32 ((bl s).getD (1) 0).toNat) <<< 16), bv .u32 (((BitVec.ofNat 32 ((bl s).getD (0) 0).toNat) <<< 24) ||| ((BitVec.ofNat 32 ((bl s).getD (1) 0).toNat) <<< 16)), .string s, by8 ((bl s).getD (2) 0), bv .u32 (BitVec.ofNat 32 ((bl s).getD (2) 0).toNat), bv .u32 ((BitVec.ofNat 32 ((bl s).getD (2) 0).toNat) <<< 8), bv .u32 ((((BitVec.ofNat 32 ((bl s).getD (0) 0).toNat) <<< 24) ||| ((BitVec.ofNat 32 ((bl s).getD (1) 0).toNat) <<< 16)) ||| ((BitVec.ofNat 32 ((bl s).getD (2) 0).toNat) <<< 8)), .string s, by8 ((bl s).getD (3) 0), bv .u32 (BitVec.ofNat 32 ((bl s).getD (3) 0).toNat), bv .u32 (((((BitVec.ofNat 32 ((bl s).getD (0) 0).toNat) <<< 24) ||| ((BitVec.ofNat 32 ((bl s).getD (1) 0).toNat) <<< 16)) ||| ((BitVec.ofNat 32 ((bl s).getD (2) 0).toNat) <<< 8)) ||| (BitVec.ofNat 32 ((bl s).getD (3) 0).toNat)), bv .u32 (((((BitVec.ofNat 32 ((bl s).getD (0) 0).toNat) <<< 24) ||| ((BitVec.ofNat 32 ((bl s).getD (1) 0).toNat) <<< 16)) ||| ((BitVec.ofNat 32 ((bl s).getD (2) 0).toNat) <<< 8)) ||| (BitVec.ofNat 32 ((bl s).getD (3) 0).toNat))] (by kernel_rfl) (by kernel_rfl) (by kernel_rfl) (by kernel_rfl) (fun _ _ _ h => h) H0.drew ?_ ?_
  · refine AllSure.cons (OpSure.take (v := .string s) (by kernel_rfl) (by kernel_rfl) (fun _ _ => (by kernel_rfl))) ?_
    refine AllSure.cons (OpSure.take (v := by8 ((bl s).getD (0) 0)) (by kernel_rfl) (by kernel_rfl) (fun _ _ => (run_idx (s := s) (k := .i64) (a := 0) (by kernel_rfl) (by kernel_rfl) (by omega)))) ?_
    refine AllSure.cons (OpSure.take (v := bv .u32 (BitVec.ofNat 32 ((bl s).getD (0) 0).toNat)) (by kernel_rfl) (by kernel_rfl) (fun _ _ => (run_wide (u := (bl s).getD (0) 0) WK.s (by kernel_rfl) Try.underlying5 Try.underlying38))) ?_
    refine AllSure.cons (OpSure.take (v := bv .u32 ((BitVec.ofNat 32 ((bl s).getD (0) 0).toNat) <<< 24)) (by kernel_rfl) (by kernel_rfl) (fun _ _ => (run_shlv (k2 := .u64) (m := 24) WK.s (a := BitVec.ofNat 32 ((bl s).getD (0) 0).toNat) (by kernel_rfl) (by kernel_rfl) (by decide)))) ?_
    refine AllSure.cons (OpSure.take (v := .string s) (by kernel_rfl) (by kernel_rfl) (fun _ _ => (by kernel_rfl))) ?_
    refine AllSure.cons (OpSure.take (v := by8 ((bl s).getD (1) 0)) (by kernel_rfl) (by kernel_rfl) (fun _ _ => (run_idx (s := s) (k := .i64) (a := 1) (by kernel_rfl) (by kernel_rfl) (by omega)))) ?_
    refine AllSure.cons (OpSure.take (v := bv .u32 (BitVec.ofNat 32 ((bl s).getD (1) 0).toNat)) (by kernel_rfl) (by kernel_rfl) (fun _ _ => (run_wide (u := (bl s).getD (1) 0) WK.s (by kernel_rfl) Try.underlying5 Try.underlying38))) ?_
    refine AllSure.cons (OpSure.take (v := bv .u32 ((BitVec.ofNat 32 ((bl s).getD (1) 0).toNat) <<< 16)) (by kernel_rfl) (by kernel_rfl) (fun _ _ => (run_shlv (k2 := .u64) (m := 16) WK.s (a := BitVec.ofNat 32 ((bl s).getD (1) 0).toNat) (by kernel_rfl) (by kernel_rfl) (by decide)))) ?_
    refine AllSure.cons (OpSure.take (v := bv .u32 (((BitVec.ofNat 32 ((bl s).getD (0) 0).toNat) <<< 24) ||| ((BitVec.ofNat 32 ((bl s).getD (1) 0).toNat) <<< 16))) (by kernel_rfl) (by kernel_rfl) (fun _ _ => (run_orv WK.s (a := (BitVec.ofNat 32 ((bl s).getD (0) 0).toNat) <<< 24) (b := (BitVec.ofNat 32 ((bl s).getD (1) 0).toNat) <<< 16) (by kernel_rfl) (by kernel_rfl)))) ?_
    refine AllSure.cons (OpSure.take (v := .string s) (by kernel_rfl) (by kernel_rfl) (fun _ _ => (by kernel_rfl))) ?_
    refine AllSure.cons (OpSure.take (v := by8 ((bl s).getD (2) 0)) (by kernel_rfl) (by kernel_rfl) (fun _ _ => (run_idx (s := s) (k := .i64) (a := 2) (by kernel_rfl) (by kernel_rfl) (by omega)))) ?_
    refine AllSure.cons (OpSure.take (v := bv .u32 (BitVec.ofNat 32 ((bl s).getD (2) 0).toNat)) (by kernel_rfl) (by kernel_rfl) (fun _ _ => (run_wide (u := (bl s).getD (2) 0) WK.s (by kernel_rfl) Try.underlying5 Try.underlying38))) ?_
    refine AllSure.cons (OpSure.take (v := bv .u32 ((BitVec.ofNat 32 ((bl s).getD (2) 0).toNat) <<< 8)) (by kernel_rfl) (by kernel_rfl) (fun _ _ => (run_shlv (k2 := .u64) (m := 8) WK.s (a := BitVec.ofNat 32 ((bl s).getD (2) 0).toNat) (by kernel_rfl) (by kernel_rfl) (by decide)))) ?_
    refine AllSure.cons (OpSure.take (v := bv .u32 ((((BitVec.ofNat 32 ((bl s).getD (0) 0).toNat) <<< 24) ||| ((BitVec.ofNat 32 ((bl s).getD (1) 0).toNat) <<< 16)) ||| ((BitVec.ofNat 32 ((bl s).getD (2) 0).toNat) <<< 8))) (by kernel_rfl) (by kernel_rfl) (fun _ _ => (run_orv WK.s (a := ((BitVec.ofNat 32 ((bl s).getD (0) 0).toNat) <<< 24) ||| ((BitVec.ofNat 32 ((bl s).getD (1) 0).toNat) <<< 16)) (b := (BitVec.ofNat 32 ((bl s).getD (2) 0).toNat) <<< 8) (by kernel_rfl) (by kernel_rfl)))) ?_
    refine AllSure.cons (OpSure.take (v := .string s) (by kernel_rfl) (by kernel_rfl) (fun _ _ => (by kernel_rfl))) ?_
    refine AllSure.cons (OpSure.take (v := by8 ((bl s).getD (3) 0)) (by kernel_rfl) (by kernel_rfl) (fun _ _ => (run_idx (s := s) (k := .i64) (a := 3) (by kernel_rfl) (by kernel_rfl) (by omega)))) ?_
    refine AllSure.cons (OpSure.take (v := bv .u32 (BitVec.ofNat 32 ((bl s).getD (3) 0).toNat)) (by kernel_rfl) (by kernel_rfl) (fun _ _ => (run_wide (u := (bl s).getD (3) 0) WK.s (by kernel_rfl) Try.underlying5 Try.underlying38))) ?_
    refine AllSure.cons (OpSure.take (v := bv .u32 (((((BitVec.ofNat 32 ((bl s).getD (0) 0).toNat) <<< 24) ||| ((BitVec.ofNat 32 ((bl s).getD (1) 0).toNat) <<< 16)) ||| ((BitVec.ofNat 32 ((bl s).getD (2) 0).toNat) <<< 8)) ||| (BitVec.ofNat 32 ((bl s).getD (3) 0).toNat))) (by kernel_rfl) (by kernel_rfl) (fun _ _ => (run_orv WK.s (a := (((BitVec.ofNat 32 ((bl s).getD (0) 0).toNat) <<< 24) ||| ((BitVec.ofNat 32 ((bl s).getD (1) 0).toNat) <<< 16)) ||| ((BitVec.ofNat 32 ((bl s).getD (2) 0).toNat) <<< 8)) (b := BitVec.ofNat 32 ((bl s).getD (3) 0).toNat) (by kernel_rfl) (by kernel_rfl)))) ?_
    refine AllSure.cons (OpSure.take (v := bv .u32 (((((BitVec.ofNat 32 ((bl s).getD (0) 0).toNat) <<< 24) ||| ((BitVec.ofNat 32 ((bl s).getD (1) 0).toNat) <<< 16)) ||| ((BitVec.ofNat 32 ((bl s).getD (2) 0).toNat) <<< 8)) ||| (BitVec.ofNat 32 ((bl s).getD (3) 0).toNat))) (by kernel_rfl) (by kernel_rfl) (fun _ _ => (by kernel_rfl))) ?_
    exact AllSure.nil
  intro w1 h2
  refine then_at (F := ⟨(.string s :: un :: bv .u32 (((((BitVec.ofNat 32 ((bl s).getD (0) 0).toNat) <<< 24) ||| ((BitVec.ofNat 32 ((bl s).getD (1) 0).toNat) <<< 16)) ||| ((BitVec.ofNat 32 ((bl s).getD (2) 0).toNat) <<< 8)) ||| (BitVec.ofNat 32 ((bl s).getD (3) 0).toNat)) :: .string s :: by8 ((bl s).getD (0) 0) :: bv .u32 (BitVec.ofNat 32 ((bl s).getD (0) 0).toNat) :: bv .u32 ((BitVec.ofNat 32 ((bl s).getD (0) 0).toNat) <<< 24) :: .string s :: by8 ((bl s).getD (1) 0) :: bv .u32 (BitVec.ofNat 32 ((bl s).getD (1) 0).toNat) :: bv .u32 ((BitVec.ofNat 32 ((bl s).getD (1) 0).toNat) <<< 16) :: bv .u32 (((BitVec.ofNat 32 ((bl s).getD (0) 0).toNat) <<< 24) ||| ((BitVec.ofNat 32 ((bl s).getD (1) 0).toNat) <<< 16)) :: .string s :: by8 ((bl s).getD (2) 0) :: bv .u32 (BitVec.ofNat 32 ((bl s).getD (2) 0).toNat) :: bv .u32 ((BitVec.ofNat 32 ((bl s).getD (2) 0).toNat) <<< 8) :: bv .u32 ((((BitVec.ofNat 32 ((bl s).getD (0) 0).toNat) <<< 24) ||| ((BitVec.ofNat 32 ((bl s).getD (1) 0).toNat) <<< 16)) ||| ((BitVec.ofNat 32 ((bl s).getD (2) 0).toNat) <<< 8)) :: .string s :: by8 ((bl s).getD (3) 0) :: bv .u32 (BitVec.ofNat 32 ((bl s).getD (3) 0).toNat) :: bv .u32 (((((BitVec.ofNat 32 ((bl s).getD (0) 0).toNat) <<< 24) ||| ((BitVec.ofNat 32 ((bl s).getD (1) 0).toNat) <<< 16)) ||| ((BitVec.ofNat 32 ((bl s).getD (2) 0).toNat) <<< 8)) ||| (BitVec.ofNat 32 ((bl s).getD (3) 0).toNat)) :: List.replicate 0 un).toArray, []⟩) (by kernel_rfl) ?_
  refine wp_ret ?_
  repeat first | refine then_ret ?_ | refine block_ret ?_
  exact bodyPost_ret (v := bv .u32 (wS s)) (by kernel_rfl) rfl ⟨rfl, h2.old⟩

set_option linter.unusedVariables false in
set_option maxRecDepth 100000 in
set_option maxHeartbeats 2000000 in
theorem mix_any (x : BitVec 32) (w : World) :
    Calls Try.prog 30 #[bv .u32 x] w fun e w' => e = .returned (bv .u32 (mixW x)) ∧ Below w.heap.size w w' := by
  have H0 := HA.start w
  go_enter Try.func30, Try.ntmps30
  refine wp_seq ?_
  -- region 0
  refine wl_region ?_
  refine wl_val (bv .u32 0#32) (by kernel_rfl) (by kernel_rfl) ?_
  refine wl_nil ?_
  refine then_at (F := ⟨(bv .u32 x :: un :: bv .u32 0#32 :: List.replicate 21 un).toArray, []⟩) (by kernel_rfl) ?_
  refine wp_seq ?_
  -- region 1
  refine wl_region ?_
  refine wl_val (bv .u32 x) (by kernel_rfl) (by kernel_rfl) ?_
  refine wl_val (bv .u32 (x &&& 2139062143#32)) (by kernel_rfl) (run_andv WK.s (a := x) (b := 2139062143#32) (by kernel_rfl) (by kernel_rfl)) ?_
  refine wl_val (bv .u32 ((x &&& 2139062143#32) <<< 1)) (by kernel_rfl) (run_shlv (k2 := .u64) (m := 1) WK.s (a := x &&& 2139062143#32) (by kernel_rfl) (by kernel_rfl) (by decide)) ?_
  refine wl_val (bv .u32 x) (by kernel_rfl) (by kernel_rfl) ?_
  refine wl_val (bv .u32 (x >>> 7)) (by kernel_rfl) (run_shrv (k2 := .u64) (m := 7) WK.s (a := x) (by kernel_rfl) (by kernel_rfl)) ?_
  refine wl_val (bv .u32 ((x >>> 7) &&& 16843009#32)) (by kernel_rfl) (run_andv WK.s (a := x >>> 7) (b := 16843009#32) (by kernel_rfl) (by kernel_rfl)) ?_
  refine wl_val (bv .u32 (((x >>> 7) &&& 16843009#32) * 27#32)) (by kernel_rfl) (run_mulv WK.s (a := (x >>> 7) &&& 16843009#32) (b := 27#32) (by kernel_rfl) (by kernel_rfl)) ?_
  refine wl_val (bv .u32 (((x &&& 2139062143#32) <<< 1) ^^^ (((x >>> 7) &&& 16843009#32) * 27#32))) (by kernel_rfl) (run_xorv WK.s (a := (x &&& 2139062143#32) <<< 1) (b := ((x >>> 7) &&& 16843009#32) * 27#32) (by kernel_rfl) (by kernel_rfl)) ?_
  refine wl_val (bv .u32 (((x &&& 2139062143#32) <<< 1) ^^^ (((x >>> 7) &&& 16843009#32) * 27#32))) (by kernel_rfl) (by kernel_rfl) ?_
  refine wl_nil ?_
  refine then_at (F := ⟨(bv .u32 x :: un :: bv .u32 0#32 :: bv .u32 (((x &&& 2139062143#32) <<< 1) ^^^ (((x >>> 7) &&& 16843009#32) * 27#32)) :: bv .u32 x :: bv .u32 (x &&& 2139062143#32) :: bv .u32 ((x &&& 2139062143#32) <<< 1) :: bv .u32 x :: bv .u32 (x >>> 7) :: bv .u32 ((x >>> 7) &&& 16843009#32) :: bv .u32 (((x >>> 7) &&& 16843009#32) * 27#32) :: bv .u32 (((x &&& 2139062143#32) <<< 1) ^^^ (((x >>> 7) &&& 16843009#32) * 27#32)) :: List.replicate 12 un).toArray, []⟩) (by kernel_rfl) ?_
  refine wp_seq ?_
  -- region 2
  refine wl_region ?_
  refine wl_val (bv .u32 (((x &&& 2139062143#32) <<< 1) ^^^ (((x >>> 7) &&& 16843009#32) * 27#32))) (by kernel_rfl) (by kernel_rfl) ?_
  refine wl_val (bv .u32 x) (by kernel_rfl) (by kernel_rfl) ?_
  refine wl_val (bv .u32 (((x &&& 2139062143#32) <<< 1) ^^^ (((x >>> 7) &&& 16843009#32) * 27#32))) (by kernel_rfl) (by kernel_rfl) ?_
  refine wl_val (bv .u32 (x ^^^ (((x &&& 2139062143#32) <<< 1) ^^^ (((x >>> 7) &&& 16843009#32) * 27#32)))) (by kernel_rfl) (run_xorv WK.s (a := x) (b := ((x &&& 2139062143#32) <<< 1) ^^^ (((x >>> 7) &&& 16843009#32) * 27#32)) (by kernel_rfl) (by kernel_rfl)) ?_
  refine wl_call (v := bv .u32 (rlW (x ^^^ (((x &&& 2139062143#32) <<< 1) ^^^ (((x >>> 7) &&& 16843009#32) * 27#32))) 8)) H0 (by kernel_rfl) enter28 #[bv .u32 (x ^^^ (((x &&& 2139062143#32) <<< 1) ^^^ (((x >>> 7) &&& 16843009#32) * 27#32))), iN .i64 8] (by kernel_rfl) (rot8 (x ^^^ (((x &&& 2139062143#32) <<< 1) ^^^ (((x >>> 7) &&& 16843009#32) * 27#32))) w) ?_
  intro w1 h2
  refine wl_val (bv .u32 ((((x &&& 2139062143#32) <<< 1) ^^^ (((x >>> 7) &&& 16843009#32) * 27#32)) ^^^ (rlW (x ^^^ (((x &&& 2139062143#32) <<< 1) ^^^ (((x >>> 7) &&& 16843009#32) * 27#32))) 8))) (by kernel_rfl) (run_xorv WK.s (a := ((x &&& 2139062143#32) <<< 1) ^^^ (((x >>> 7) &&& 16843009#32) * 27#32)) (b := rlW (x ^^^ (((x &&& 2139062143#32) <<< 1) ^^^ (((x >>> 7) &&& 16843009#32) * 27#32))) 8) (by kernel_rfl) (by kernel_rfl)) ?_
  refine wl_val (bv .u32 x) (by kernel_rfl) (by kernel_rfl) ?_
  refine wl_call (v := bv .u32 (rlW x 16)) h2 (by kernel_rfl) enter28 #[bv .u32 x, iN .i64 16] (by kernel_rfl) (rot16 x w1) ?_
  intro w3 h4
  refine wl_val (bv .u32 (((((x &&& 2139062143#32) <<< 1) ^^^ (((x >>> 7) &&& 16843009#32) * 27#32)) ^^^ (rlW (x ^^^ (((x &&& 2139062143#32) <<< 1) ^^^ (((x >>> 7) &&& 16843009#32) * 27#32))) 8)) ^^^ (rlW x 16))) (by kernel_rfl) (run_xorv WK.s (a := (((x &&& 2139062143#32) <<< 1) ^^^ (((x >>> 7) &&& 16843009#32) * 27#32)) ^^^ (rlW (x ^^^ (((x &&& 2139062143#32) <<< 1) ^^^ (((x >>> 7) &&& 16843009#32) * 27#32))) 8)) (b := rlW x 16) (by kernel_rfl) (by kernel_rfl)) ?_
  refine wl_val (bv .u32 x) (by kernel_rfl) (by kernel_rfl) ?_
  refine wl_call (v := bv .u32 (rlW x 24)) h4 (by kernel_rfl) enter28 #[bv .u32 x, iN .i64 24] (by kernel_rfl) (rot24 x w3) ?_
  intro w5 h6
  refine wl_val (bv .u32 ((((((x &&& 2139062143#32) <<< 1) ^^^ (((x >>> 7) &&& 16843009#32) * 27#32)) ^^^ (rlW (x ^^^ (((x &&& 2139062143#32) <<< 1) ^^^ (((x >>> 7) &&& 16843009#32) * 27#32))) 8)) ^^^ (rlW x 16)) ^^^ (rlW x 24))) (by kernel_rfl) (run_xorv WK.s (a := ((((x &&& 2139062143#32) <<< 1) ^^^ (((x >>> 7) &&& 16843009#32) * 27#32)) ^^^ (rlW (x ^^^ (((x &&& 2139062143#32) <<< 1) ^^^ (((x >>> 7) &&& 16843009#32) * 27#32))) 8)) ^^^ (rlW x 16)) (b := rlW x 24) (by kernel_rfl) (by kernel_rfl)) ?_
  refine wl_val (bv .u32 ((((((x &&& 2139062143#32) <<< 1) ^^^ (((x >>> 7) &&& 16843009#32) * 27#32)) ^^^ (rlW (x ^^^ (((x &&& 2139062143#32) <<< 1) ^^^ (((x >>> 7) &&& 16843009#32) * 27#32))) 8)) ^^^ (rlW x 16)) ^^^ (rlW x 24))) (by kernel_rfl) (by kernel_rfl) ?_
  refine wl_nil ?_
  refine then_at (F := ⟨(bv .u32 x :: un :: bv .u32 ((((((x &&& 2139062143#32) <<< 1) ^^^ (((x >>> 7) &&& 16843009#32) * 27#32)) ^^^ (rlW (x ^^^ (((x &&& 2139062143#32) <<< 1) ^^^ (((x >>> 7) &&& 16843009#32) * 27#32))) 8)) ^^^ (rlW x 16)) ^^^ (rlW x 24)) :: bv .u32 (((x &&& 2139062143#32) <<< 1) ^^^ (((x >>> 7) &&& 16843009#32) * 27#32)) :: bv .u32 x :: bv .u32 (x &&& 2139062143#32) :: bv .u32 ((x &&& 2139062143#32) <<< 1) :: bv .u32 x :: bv .u32 (x >>> 7) :: bv .u32 ((x >>> 7) &&& 16843009#32) :: bv .u32 (((x >>> 7) &&& 16843009#32) * 27#32) :: bv .u32 (((x &&& 2139062143#32) <<< 1) ^^^ (((x >>> 7) &&& 16843009#32) * 27#32)) :: bv .u32 (((x &&& 2139062143#32) <<< 1) ^^^ (((x >>> 7) &&& 16843009#32) * 27#32)) :: bv .u32 x :: bv .u32 (((x &&& 2139062143#32) <<< 1) ^^^ (((x >>> 7) &&& 16843009#32) * 27#32)) :: bv .u32 (x ^^^ (((x &&& 2139062143#32) <<< 1) ^^^ (((x >>> 7) &&& 16843009#32) * 27#32))) :: bv .u32 (rlW (x ^^^ (((x &&& 2139062143#32) <<< 1) ^^^ (((x >>> 7) &&& 16843009#32) * 27#32))) 8) :: bv .u32 ((((x &&& 2139062143#32) <<< 1) ^^^ (((x >>> 7) &&& 16843009#32) * 27#32)) ^^^ (rlW (x ^^^ (((x &&& 2139062143#32) <<< 1) ^^^ (((x >>> 7) &&& 16843009#32) * 27#32))) 8)) :: bv .u32 x :: bv .u32 (rlW x 16) :: bv .u32 (((((x &&& 2139062143#32) <<< 1) ^^^ (((x >>> 7) &&& 16843009#32) * 27#32)) ^^^ (rlW (x ^^^ (((x &&& 2139062143#32) <<< 1) ^^^ (((x >>> 7) &&& 16843009#32) * 27#32))) 8)) ^^^ (rlW x 16)) :: bv .u32 x :: bv .u32 (rlW x 24) :: bv .u32 ((((((x &&& 2139062143#32) <<< 1) ^^^ (((x >>> 7) &&& 16843009#32) * 27#32)) ^^^ (rlW (x ^^^ (((x &&& 2139062143#32) <<< 1) ^^^ (((x >>> 7) &&& 16843009#32) * 27#32))) 8)) ^^^ (rlW x 16)) ^^^ (rlW x 24)) :: List.replicate 0 un).toArray, []⟩) (by kernel_rfl) ?_
  refine wp_ret ?_
  repeat first | refine then_ret ?_ | refine block_ret ?_
  exact bodyPost_ret (v := bv .u32 (mixW x)) (by kernel_rfl) rfl ⟨rfl, h6.old⟩

set_option linter.unusedVariables false in
set_option maxRecDepth 100000 in
set_option maxHeartbeats 2000000 in
theorem added_any (x y : Q4) (w : World) :
    Calls Try.prog 31 #[.agg (qc x), .agg (qc y)] w fun e w' => e = .returned (.agg (qc (addQ x y))) ∧ Below w.heap.size w w' := by
  have H0 := HA.start w
  go_enter Try.func31, Try.ntmps31
  refine wp_seq ?_
  -- region 0
  refine wl_region ?_
  refine wl_make H0 40 (by kernel_rfl) (run_box40 (c := qc x) (by kernel_rfl)) ?_
  intro q1 w2 h3
  refine wl_make h3 40 (by kernel_rfl) (run_box40 (c := qc y) (by kernel_rfl)) ?_
  intro q4 w5 h6
  refine wl_make h6 40 (by kernel_rfl) run_alloc40 ?_
  intro q7 w8 h9
  refine wl_nil ?_
  refine then_at (F := ⟨(.agg (qc x) :: .agg (qc y) :: pt q1 :: pt q4 :: pt q7 :: List.replicate 21 un).toArray, []⟩) (by kernel_rfl) ?_
  refine wp_seq ?_
  -- region 1
  refine wl_region ?_
  refine wl_val (.pointer (some ⟨q1, 0, none⟩)) (by kernel_rfl) (by kernel_rfl) ?_
  refine wl_val (bv .u32 x.a) (by kernel_rfl) (run_load1 (fun w => Try.isAgg38 w) (by kernel_rfl) (((h9.get 2 rfl).cell 0).trans (by kernel_rfl))) ?_
  refine wl_val (.pointer (some ⟨q4, 0, none⟩)) (by kernel_rfl) (by kernel_rfl) ?_
  refine wl_val (bv .u32 y.a) (by kernel_rfl) (run_load1 (fun w => Try.isAgg38 w) (by kernel_rfl) (((h9.get 1 rfl).cell 0).trans (by kernel_rfl))) ?_
  refine wl_val (bv .u32 (x.a ^^^ y.a)) (by kernel_rfl) (run_xorv WK.s (a := x.a) (b := y.a) (by kernel_rfl) (by kernel_rfl)) ?_
  refine wl_val (.pointer (some ⟨q1, 1, none⟩)) (by kernel_rfl) (by kernel_rfl) ?_
  refine wl_val (bv .u32 x.b) (by kernel_rfl) (run_load1 (fun w => Try.isAgg38 w) (by kernel_rfl) (((h9.get 2 rfl).cell 1).trans (by kernel_rfl))) ?_
  refine wl_val (.pointer (some ⟨q4, 1, none⟩)) (by kernel_rfl) (by kernel_rfl) ?_
  refine wl_val (bv .u32 y.b) (by kernel_rfl) (run_load1 (fun w => Try.isAgg38 w) (by kernel_rfl) (((h9.get 1 rfl).cell 1).trans (by kernel_rfl))) ?_
  refine wl_val (bv .u32 (x.b ^^^ y.b)) (by kernel_rfl) (run_xorv WK.s (a := x.b) (b := y.b) (by kernel_rfl) (by kernel_rfl)) ?_
  refine wl_val (.pointer (some ⟨q1, 2, none⟩)) (by kernel_rfl) (by kernel_rfl) ?_
  refine wl_val (bv .u32 x.c) (by kernel_rfl) (run_load1 (fun w => Try.isAgg38 w) (by kernel_rfl) (((h9.get 2 rfl).cell 2).trans (by kernel_rfl))) ?_
  refine wl_val (.pointer (some ⟨q4, 2, none⟩)) (by kernel_rfl) (by kernel_rfl) ?_
  refine wl_val (bv .u32 y.c) (by kernel_rfl) (run_load1 (fun w => Try.isAgg38 w) (by kernel_rfl) (((h9.get 1 rfl).cell 2).trans (by kernel_rfl))) ?_
  refine wl_val (bv .u32 (x.c ^^^ y.c)) (by kernel_rfl) (run_xorv WK.s (a := x.c) (b := y.c) (by kernel_rfl) (by kernel_rfl)) ?_
  refine wl_val (.pointer (some ⟨q1, 3, none⟩)) (by kernel_rfl) (by kernel_rfl) ?_
  refine wl_val (bv .u32 x.d) (by kernel_rfl) (run_load1 (fun w => Try.isAgg38 w) (by kernel_rfl) (((h9.get 2 rfl).cell 3).trans (by kernel_rfl))) ?_
  refine wl_val (.pointer (some ⟨q4, 3, none⟩)) (by kernel_rfl) (by kernel_rfl) ?_
  refine wl_val (bv .u32 y.d) (by kernel_rfl) (run_load1 (fun w => Try.isAgg38 w) (by kernel_rfl) (((h9.get 1 rfl).cell 3).trans (by kernel_rfl))) ?_
  refine wl_val (bv .u32 (x.d ^^^ y.d)) (by kernel_rfl) (run_xorv WK.s (a := x.d) (b := y.d) (by kernel_rfl) (by kernel_rfl)) ?_
  refine wl_val (.agg (qc (addQ x y))) (by kernel_rfl) (run_build40 (a := x.a ^^^ y.a) (b := x.b ^^^ y.b) (d := x.c ^^^ y.c) (e := x.d ^^^ y.d) (by kernel_rfl) (by kernel_rfl) (by kernel_rfl) (by kernel_rfl)) ?_
  refine wl_fill (c' := qc (addQ x y)) h9 0 rfl (by kernel_rfl) (by kernel_rfl) (by kernel_rfl) rfl (info40 (addQ x y)) (one_qc (addQ x y)) ?_
  intro w10 (h11 : HA w [(q7, 40, qc (addQ x y)), (q4, 40, qc y), (q1, 40, qc x)] w10)
  refine wl_nil ?_
  refine then_at (F := ⟨(.agg (qc x) :: .agg (qc y) :: pt q1 :: pt q4 :: pt q7 :: pt q1 :: bv .u32 x.a :: pt q4 :: bv .u32 y.a :: bv .u32 (x.a ^^^ y.a) :: .pointer (some ⟨q1, 1, none⟩) :: bv .u32 x.b :: .pointer (some ⟨q4, 1, none⟩) :: bv .u32 y.b :: bv .u32 (x.b ^^^ y.b) :: .pointer (some ⟨q1, 2, none⟩) :: bv .u32 x.c :: .pointer (some ⟨q4, 2, none⟩) :: bv .u32 y.c :: bv .u32 (x.c ^^^ y.c) :: .pointer (some ⟨q1, 3, none⟩) :: bv .u32 x.d :: .pointer (some ⟨q4, 3, none⟩) :: bv .u32 y.d :: bv .u32 (x.d ^^^ y.d) :: .agg (qc (addQ x y)) :: List.replicate 0 un).toArray, []⟩) (by kernel_rfl) ?_
  refine wp_ret ?_
  repeat first | refine then_ret ?_ | refine block_ret ?_
  exact bodyPost_ret (v := .agg (qc (addQ x y))) (res_cell (p := 4) (by kernel_rfl) (by kernel_rfl) (h11.get 0 rfl) Try.underlying40 rfl (info40 (addQ x y))) rfl ⟨rfl, h11.old⟩

set_option linter.unusedVariables false in
set_option maxRecDepth 100000 in
set_option maxHeartbeats 2000000 in
theorem boxed_any (q : Nat) (l : List (BitVec 32)) (a b c d : BitVec 32) (w : World) (hq : Blk w q 59 (cc l)) :
    Calls Try.prog 29 #[.pointer (some ⟨q, 0, none⟩), bv .u32 a, bv .u32 b, bv .u32 c, bv .u32 d] w fun e w' => e = .returned (bv .u32 (bxW a b c d)) ∧ Below w.heap.size w w' := by
  have H0 := HA.start w
  go_enter Try.func29, Try.ntmps29
  refine wp_seq ?_
  -- region 0
  refine wl_region ?_
  refine wl_val (bv .u32 0#32) (by kernel_rfl) (by kernel_rfl) ?_
  refine wl_nil ?_
  refine then_at (F := ⟨(pt q :: bv .u32 a :: bv .u32 b :: bv .u32 c :: bv .u32 d :: un :: un :: un :: un :: un :: bv .u32 0#32 :: List.replicate 41 un).toArray, []⟩) (by kernel_rfl) ?_
  refine wp_seq ?_
  -- region 1
  refine wp_region_sure ⟨(pt q :: bv .u32 a :: bv .u32 b :: bv .u32 c :: bv .u32 d :: un :: un :: un :: un :: un :: bv .u32 (((((BitVec.ofNat 32 (boxL.getD ((UInt8.ofNat (a >>> 24).toNat).toNat) 0).toNat) <<< 24) ||| ((BitVec.ofNat 32 (boxL.getD ((UInt8.ofNat (b >>> 16).toNat).toNat) 0).toNat) <<< 16)) ||| ((BitVec.ofNat 32 (boxL.getD ((UInt8.ofNat (c >>> 8).toNat).toNat) 0).toNat) <<< 8)) ||| (BitVec.ofNat 32 (boxL.getD ((UInt8.ofNat d.toNat).toNat) 0).toNat)) :: pt q :: bv .u32 a :: bv .u32 (a >>> 24) :: by8 (UInt8.ofNat (a >>> 24).toNat) :: pt q :: pt q :: .pointer (some ⟨q, (UInt8.ofNat (a >>> 24).toNat).toNat, none⟩) :: by8 (boxL.getD ((UInt8.ofNat (a >>> 24).toNat).toNat) 0) :: bv .u32 (BitVec.ofNat 32 (boxL.getD ((UInt8.ofNat (a >>> 24).toNat).toNat) 0).toNat) :: bv .u32 ((BitVec.ofNat 32 (boxL.getD ((UInt8.ofNat (a >>> 24).toNat).toNat) 0).toNat) <<< 24) :: pt q :: bv .u32 b :: bv .u32 (b >>> 16) :: by8 (UInt8.ofNat (b >>> 16).toNat) :: pt q :: pt q :: .pointer (some ⟨q, (UInt8.ofNat (b >>> 16).toNat).toNat, none⟩) :: by8 (boxL.getD ((UInt8.ofNat (b >>> 16).toNat).toNat) 0) :: bv .u32 (BitVec.ofNat 32 (boxL.getD ((UInt8.ofNat (b >>> 16).toNat).toNat) 0).toNat) :: bv .u32 ((BitVec.ofNat 32 (boxL.getD ((UInt8.ofNat (b >>> 16).toNat).toNat) 0).toNat) <<< 16) :: bv .u32 (((BitVec.ofNat 32 (boxL.getD ((UInt8.ofNat (a >>> 24).toNat).toNat) 0).toNat) <<< 24) ||| ((BitVec.ofNat 32 (boxL.getD ((UInt8.ofNat (b >>> 16).toNat).toNat) 0).toNat) <<< 16)) :: pt q :: bv .u32 c :: bv .u32 (c >>> 8) :: by8 (UInt8.ofNat (c >>> 8).toNat) :: pt q :: pt q :: .pointer (some ⟨q, (UInt8.ofNat (c >>> 8).toNat).toNat, none⟩) :: by8 (boxL.getD ((UInt8.ofNat (c >>> 8).toNat).toNat) 0) :: bv .u32 (BitVec.ofNat 32 (boxL.getD ((UInt8.ofNat (c >>> 8).toNat).toNat) 0).toNat) :: bv .u32 ((BitVec.ofNat 32 (boxL.getD ((UInt8.ofNat (c >>> 8).toNat).toNat) 0).toNat) <<< 8) :: bv .u32 ((((BitVec.ofNat 32 (boxL.getD ((UInt8.ofNat (a >>> 24).toNat).toNat) 0).toNat) <<< 24) ||| ((BitVec.ofNat 32 (boxL.getD ((UInt8.ofNat (b >>> 16).toNat).toNat) 0).toNat) <<< 16)) ||| ((BitVec.ofNat 32 (boxL.getD ((UInt8.ofNat (c >>> 8).toNat).toNat) 0).toNat) <<< 8)) :: pt q :: bv .u32 d :: by8 (UInt8.ofNat d.toNat) :: pt q :: pt q :: .pointer (some ⟨q, (UInt8.ofNat d.toNat).toNat, none⟩) :: by8 (boxL.getD ((UInt8.ofNat d.toNat).toNat) 0) :: bv .u32 (BitVec.ofNat 32 (boxL.getD ((UInt8.ofNat d.toNat).toNat) 0).toNat) :: bv .u32 (((((BitVec.ofNat 32 (boxL.getD ((UInt8.ofNat (a >>> 24).toNat).toNat) 0).toNat) <<< 24) ||| ((BitVec.ofNat 32 (boxL.getD ((UInt8.ofNat (b >>> 16).toNat).toNat) 0).toNat) <<< 16)) ||| ((BitVec.ofNat 32 (boxL.getD ((UInt8.ofNat (c >>> 8).toNat).toNat) 0).toNat) <<< 8)) ||| (BitVec.ofNat 32 (boxL.getD ((UInt8.ofNat d.toNat).toNat) 0).toNat)) :: List.replicate 0 un).toArray, []⟩ (HA w []) [.pointer (some ⟨q, 0, none⟩), bv .u32 a, bv .u32 (a >>> 24), by8 (UInt8.ofNat (a >>> 24).toNat), .pointer (some ⟨q, 0, none⟩), .pointer (some ⟨q, 0, none⟩), .pointer (some ⟨q, (UInt8.ofNat (a >>> 24).toNat).toNat, none⟩), by8 (boxL.getD ((UInt8.ofNat (a >>> 24).toNat).toNat) 0), bv .u32 (BitVec.ofNat 32 (boxL.getD ((UInt8.ofNat (a >>> 24).toNat).toNat) 0).toNat), bv .u32 ((BitVec.ofNat 32 (boxL.getD ((UInt8.ofNat (a >>> 24).toNat).toNat) 0).toNat) <<< 24), .pointer (some ⟨q, 0, none⟩), bv .u32 b, bv .u32 (b >>> 16), by8 (UInt8.ofNat (b >>> 16).toNat), .pointer (some ⟨q, 0, none⟩), .pointer (some ⟨q, 0, none⟩), .pointer (some ⟨q, (UInt8.ofNat (b >>> 16).toNat).toNat, none⟩), by8 (boxL.getD ((UInt8.ofNat (b >>> 16).toNat).toNat) 0), bv .u32 (BitVec.ofNat 32 (boxL.getD ((UInt8.ofNat (b >>> 16).toNat).toNat) 0).toNat), bv .u32 ((BitVec.ofNat 32 (boxL.getD ((UInt8.ofNat (b >>> 16).toNat).toNat) 0).toNat) <<< 16), bv .u32 (((BitVec.ofNat 32 (boxL.getD ((UInt8.ofNat (a >>> 24).toNat).toNat) 0).toNat) <<< 24) ||| ((BitVec.ofNat 32 (boxL.getD ((UInt8.ofNat (b >>> 16).toNat).toNat) 0).toNat) <<< 16)), .pointer (some ⟨q, 0, none⟩), bv .u32 c, bv .u32 (c >>> 8), by8 (UInt8.ofNat (c >>> 8).toNat), .pointer (some ⟨q, 0, none⟩), .pointer (some ⟨q, 0, none⟩), .pointer (some ⟨q, (UInt8.ofNat (c >>> 8).toNat).toNat, none⟩), by8 (boxL.getD ((UInt8.ofNat (c >>> 8).toNat).toNat) 0), bv .u32 (BitVec.ofNat 32 (boxL.getD ((UInt8.ofNat (c >>> 8).toNat).toNat) 0).toNat), bv .u32 ((BitVec.ofNat 32 (boxL.getD ((UInt8.ofNat (c >>> 8).toNat).toNat) 0).toNat) <<< 8), bv .u32 ((((BitVec.ofNat 32 (boxL.getD ((UInt8.ofNat (a >>> 24).toNat).toNat) 0).toNat) <<< 24) ||| ((BitVec.ofNat 32 (boxL.getD ((UInt8.ofNat (b >>> 16).toNat).toNat) 0).toNat) <<< 16)) ||| ((BitVec.ofNat 32 (boxL.getD ((UInt8.ofNat (c >>> 8).toNat).toNat) 0).toNat) <<< 8)), .pointer (some ⟨q, 0, none⟩), bv .u32 d, by8 (UInt8.ofNat d.toNat), .pointer (some ⟨q, 0, none⟩), .pointer (some ⟨q, 0, none⟩), .pointer (some ⟨q, (UInt8.ofNat d.toNat).toNat, none⟩), by8 (boxL.getD ((UInt8.ofNat d.toNat).toNat) 0), bv .u32 (BitVec.ofNat 32 (boxL.getD ((UInt8.ofNat d.toNat).toNat) 0).toNat), bv .u32 (((((BitVec.ofNat 32 (boxL.getD ((UInt8.ofNat (a >>> 24).toNat).toNat) 0).toNat) <<< 24) ||| ((BitVec.ofNat 32 (boxL.getD ((UInt8.ofNat (b >>> 16).toNat).toNat) 0).toNat) <<< 16)) ||| ((BitVec.ofNat 32 (boxL.getD ((UInt8.ofNat (c >>> 8).toNat).toNat) 0).toNat) <<< 8)) ||| (BitVec.ofNat 32 (boxL.getD ((UInt8.ofNat d.toNat).toNat) 0).toNat)), bv .u32 (((((BitVec.ofNat 32 (boxL.getD ((UInt8.ofNat (a >>> 24).toNat).toNat) 0).toNat) <<< 24) ||| ((BitVec.ofNat 32 (boxL.getD ((UInt8.ofNat (b >>> 16).toNat).toNat) 0).toNat) <<< 16)) ||| ((BitVec.ofNat 32 (boxL.getD ((UInt8.ofNat (c >>> 8).toNat).toNat) 0).toNat) <<< 8)) ||| (BitVec.ofNat 32 (boxL.getD ((UInt8.ofNat d.toNat).toNat) 0).toNat))] (by kernel_rfl) (by kernel_rfl) (by kernel_rfl) (by kernel_rfl) (fun _ _ _ h => h) H0.drew ?_ ?_
  · refine AllSure.cons (OpSure.take (v := .pointer (some ⟨q, 0, none⟩)) (by kernel_rfl) (by kernel_rfl) (fun _ _ => (by kernel_rfl))) ?_
    refine AllSure.cons (OpSure.take (v := bv .u32 a) (by kernel_rfl) (by kernel_rfl) (fun _ _ => (by kernel_rfl))) ?_
    refine AllSure.cons (OpSure.take (v := bv .u32 (a >>> 24)) (by kernel_rfl) (by kernel_rfl) (fun _ _ => (run_shrv (k2 := .u64) (m := 24) WK.s (a := a) (by kernel_rfl) (by kernel_rfl)))) ?_
    refine AllSure.cons (OpSure.take (v := by8 (UInt8.ofNat (a >>> 24).toNat)) (by kernel_rfl) (by kernel_rfl) (fun _ _ => (run_low (a := a >>> 24) (by kernel_rfl) Try.underlying38 Try.underlying5))) ?_
    refine AllSure.cons (OpSure.take (v := .pointer (some ⟨q, 0, none⟩)) (by kernel_rfl) (by kernel_rfl) (fun _ _ => (run_nil (q := q) (by kernel_rfl)))) ?_
    refine AllSure.cons (OpSure.take (v := .pointer (some ⟨q, 0, none⟩)) (by kernel_rfl) (by kernel_rfl) (fun _ _ => (by kernel_rfl))) ?_
    refine AllSure.cons (OpSure.take (v := .pointer (some ⟨q, (UInt8.ofNat (a >>> 24).toNat).toNat, none⟩)) (by kernel_rfl) (by kernel_rfl) (fun _ _ => (addr_eq (by omega) (run_addr_k (k := .u8) (q := q) (o := 0) (a := (UInt8.ofNat (a >>> 24).toNat).toNat) (m := 1) Try.underlying46 (fun w => Try.sizeOf5 w) (by kernel_rfl) (by kernel_rfl) (UInt8.toNat_lt (UInt8.ofNat (a >>> 24).toNat)))))) ?_
    refine AllSure.cons (OpSure.take (v := by8 (boxL.getD ((UInt8.ofNat (a >>> 24).toNat).toNat) 0)) (by kernel_rfl) (by kernel_rfl) (fun w' h' => run_load1 (fun w => Try.isAgg5 w) (by kernel_rfl) (((hq.keep h'.old).cell ((UInt8.ofNat (a >>> 24).toNat).toNat)).trans (cc_box l ((UInt8.ofNat (a >>> 24).toNat).toNat) (UInt8.toNat_lt _))))) ?_
    refine AllSure.cons (OpSure.take (v := bv .u32 (BitVec.ofNat 32 (boxL.getD ((UInt8.ofNat (a >>> 24).toNat).toNat) 0).toNat)) (by kernel_rfl) (by kernel_rfl) (fun _ _ => (run_wide (u := boxL.getD ((UInt8.ofNat (a >>> 24).toNat).toNat) 0) WK.s (by kernel_rfl) Try.underlying5 Try.underlying38))) ?_
    refine AllSure.cons (OpSure.take (v := bv .u32 ((BitVec.ofNat 32 (boxL.getD ((UInt8.ofNat (a >>> 24).toNat).toNat) 0).toNat) <<< 24)) (by kernel_rfl) (by kernel_rfl) (fun _ _ => (run_shlv (k2 := .u64) (m := 24) WK.s (a := BitVec.ofNat 32 (boxL.getD ((UInt8.ofNat (a >>> 24).toNat).toNat) 0).toNat) (by kernel_rfl) (by kernel_rfl) (by decide)))) ?_
    refine AllSure.cons (OpSure.take (v := .pointer (some ⟨q, 0, none⟩)) (by kernel_rfl) (by kernel_rfl) (fun _ _ => (by kernel_rfl))) ?_
    refine AllSure.cons (OpSure.take (v := bv .u32 b) (by kernel_rfl) (by kernel_rfl) (fun _ _ => (by kernel_rfl))) ?_
    refine AllSure.cons (OpSure.take (v := bv .u32 (b >>> 16)) (by kernel_rfl) (by kernel_rfl) (fun _ _ => (run_shrv (k2 := .u64) (m := 16) WK.s (a := b) (by kernel_rfl) (by kernel_rfl)))) ?_
    refine AllSure.cons (OpSure.take (v := by8 (UInt8.ofNat (b >>> 16).toNat)) (by kernel_rfl) (by kernel_rfl) (fun _ _ => (run_low (a := b >>> 16) (by kernel_rfl) Try.underlying38 Try.underlying5))) ?_
    refine AllSure.cons (OpSure.take (v := .pointer (some ⟨q, 0, none⟩)) (by kernel_rfl) (by kernel_rfl) (fun _ _ => (run_nil (q := q) (by kernel_rfl)))) ?_
    refine AllSure.cons (OpSure.take (v := .pointer (some ⟨q, 0, none⟩)) (by kernel_rfl) (by kernel_rfl) (fun _ _ => (by kernel_rfl))) ?_
    refine AllSure.cons (OpSure.take (v := .pointer (some ⟨q, (UInt8.ofNat (b >>> 16).toNat).toNat, none⟩)) (by kernel_rfl) (by kernel_rfl) (fun _ _ => (addr_eq (by omega) (run_addr_k (k := .u8) (q := q) (o := 0) (a := (UInt8.ofNat (b >>> 16).toNat).toNat) (m := 1) Try.underlying46 (fun w => Try.sizeOf5 w) (by kernel_rfl) (by kernel_rfl) (UInt8.toNat_lt (UInt8.ofNat (b >>> 16).toNat)))))) ?_
    refine AllSure.cons (OpSure.take (v := by8 (boxL.getD ((UInt8.ofNat (b >>> 16).toNat).toNat) 0)) (by kernel_rfl) (by kernel_rfl) (fun w' h' => run_load1 (fun w => Try.isAgg5 w) (by kernel_rfl) (((hq.keep h'.old).cell ((UInt8.ofNat (b >>> 16).toNat).toNat)).trans (cc_box l ((UInt8.ofNat (b >>> 16).toNat).toNat) (UInt8.toNat_lt _))))) ?_
    refine AllSure.cons (OpSure.take (v := bv .u32 (BitVec.ofNat 32 (boxL.getD ((UInt8.ofNat (b >>> 16).toNat).toNat) 0).toNat)) (by kernel_rfl) (by kernel_rfl) (fun _ _ => (run_wide (u := boxL.getD ((UInt8.ofNat (b >>> 16).toNat).toNat) 0) WK.s (by kernel_rfl) Try.underlying5 Try.underlying38))) ?_
    refine AllSure.cons (OpSure.take (v := bv .u32 ((BitVec.ofNat 32 (boxL.getD ((UInt8.ofNat (b >>> 16).toNat).toNat) 0).toNat) <<< 16)) (by kernel_rfl) (by kernel_rfl) (fun _ _ => (run_shlv (k2 := .u64) (m := 16) WK.s (a := BitVec.ofNat 32 (boxL.getD ((UInt8.ofNat (b >>> 16).toNat).toNat) 0).toNat) (by kernel_rfl) (by kernel_rfl) (by decide)))) ?_
    refine AllSure.cons (OpSure.take (v := bv .u32 (((BitVec.ofNat 32 (boxL.getD ((UInt8.ofNat (a >>> 24).toNat).toNat) 0).toNat) <<< 24) ||| ((BitVec.ofNat 32 (boxL.getD ((UInt8.ofNat (b >>> 16).toNat).toNat) 0).toNat) <<< 16))) (by kernel_rfl) (by kernel_rfl) (fun _ _ => (run_orv WK.s (a := (BitVec.ofNat 32 (boxL.getD ((UInt8.ofNat (a >>> 24).toNat).toNat) 0).toNat) <<< 24) (b := (BitVec.ofNat 32 (boxL.getD ((UInt8.ofNat (b >>> 16).toNat).toNat) 0).toNat) <<< 16) (by kernel_rfl) (by kernel_rfl)))) ?_
    refine AllSure.cons (OpSure.take (v := .pointer (some ⟨q, 0, none⟩)) (by kernel_rfl) (by kernel_rfl) (fun _ _ => (by kernel_rfl))) ?_
    refine AllSure.cons (OpSure.take (v := bv .u32 c) (by kernel_rfl) (by kernel_rfl) (fun _ _ => (by kernel_rfl))) ?_
    refine AllSure.cons (OpSure.take (v := bv .u32 (c >>> 8)) (by kernel_rfl) (by kernel_rfl) (fun _ _ => (run_shrv (k2 := .u64) (m := 8) WK.s (a := c) (by kernel_rfl) (by kernel_rfl)))) ?_
    refine AllSure.cons (OpSure.take (v := by8 (UInt8.ofNat (c >>> 8).toNat)) (by kernel_rfl) (by kernel_rfl) (fun _ _ => (run_low (a := c >>> 8) (by kernel_rfl) Try.underlying38 Try.underlying5))) ?_
    refine AllSure.cons (OpSure.take (v := .pointer (some ⟨q, 0, none⟩)) (by kernel_rfl) (by kernel_rfl) (fun _ _ => (run_nil (q := q) (by kernel_rfl)))) ?_
    refine AllSure.cons (OpSure.take (v := .pointer (some ⟨q, 0, none⟩)) (by kernel_rfl) (by kernel_rfl) (fun _ _ => (by kernel_rfl))) ?_
    refine AllSure.cons (OpSure.take (v := .pointer (some ⟨q, (UInt8.ofNat (c >>> 8).toNat).toNat, none⟩)) (by kernel_rfl) (by kernel_rfl) (fun _ _ => (addr_eq (by omega) (run_addr_k (k := .u8) (q := q) (o := 0) (a := (UInt8.ofNat (c >>> 8).toNat).toNat) (m := 1) Try.underlying46 (fun w => Try.sizeOf5 w) (by kernel_rfl) (by kernel_rfl) (UInt8.toNat_lt (UInt8.ofNat (c >>> 8).toNat)))))) ?_
    refine AllSure.cons (OpSure.take (v := by8 (boxL.getD ((UInt8.ofNat (c >>> 8).toNat).toNat) 0)) (by kernel_rfl) (by kernel_rfl) (fun w' h' => run_load1 (fun w => Try.isAgg5 w) (by kernel_rfl) (((hq.keep h'.old).cell ((UInt8.ofNat (c >>> 8).toNat).toNat)).trans (cc_box l ((UInt8.ofNat (c >>> 8).toNat).toNat) (UInt8.toNat_lt _))))) ?_
    refine AllSure.cons (OpSure.take (v := bv .u32 (BitVec.ofNat 32 (boxL.getD ((UInt8.ofNat (c >>> 8).toNat).toNat) 0).toNat)) (by kernel_rfl) (by kernel_rfl) (fun _ _ => (run_wide (u := boxL.getD ((UInt8.ofNat (c >>> 8).toNat).toNat) 0) WK.s (by kernel_rfl) Try.underlying5 Try.underlying38))) ?_
    refine AllSure.cons (OpSure.take (v := bv .u32 ((BitVec.ofNat 32 (boxL.getD ((UInt8.ofNat (c >>> 8).toNat).toNat) 0).toNat) <<< 8)) (by kernel_rfl) (by kernel_rfl) (fun _ _ => (run_shlv (k2 := .u64) (m := 8) WK.s (a := BitVec.ofNat 32 (boxL.getD ((UInt8.ofNat (c >>> 8).toNat).toNat) 0).toNat) (by kernel_rfl) (by kernel_rfl) (by decide)))) ?_
    refine AllSure.cons (OpSure.take (v := bv .u32 ((((BitVec.ofNat 32 (boxL.getD ((UInt8.ofNat (a >>> 24).toNat).toNat) 0).toNat) <<< 24) ||| ((BitVec.ofNat 32 (boxL.getD ((UInt8.ofNat (b >>> 16).toNat).toNat) 0).toNat) <<< 16)) ||| ((BitVec.ofNat 32 (boxL.getD ((UInt8.ofNat (c >>> 8).toNat).toNat) 0).toNat) <<< 8))) (by kernel_rfl) (by kernel_rfl) (fun _ _ => (run_orv WK.s (a := ((BitVec.ofNat 32 (boxL.getD ((UInt8.ofNat (a >>> 24).toNat).toNat) 0).toNat) <<< 24) ||| ((BitVec.ofNat 32 (boxL.getD ((UInt8.ofNat (b >>> 16).toNat).toNat) 0).toNat) <<< 16)) (b := (BitVec.ofNat 32 (boxL.getD ((UInt8.ofNat (c >>> 8).toNat).toNat) 0).toNat) <<< 8) (by kernel_rfl) (by kernel_rfl)))) ?_
    refine AllSure.cons (OpSure.take (v := .pointer (some ⟨q, 0, none⟩)) (by kernel_rfl) (by kernel_rfl) (fun _ _ => (by kernel_rfl))) ?_
    refine AllSure.cons (OpSure.take (v := bv .u32 d) (by kernel_rfl) (by kernel_rfl) (fun _ _ => (by kernel_rfl))) ?_
    refine AllSure.cons (OpSure.take (v := by8 (UInt8.ofNat d.toNat)) (by kernel_rfl) (by kernel_rfl) (fun _ _ => (run_low (a := d) (by kernel_rfl) Try.underlying38 Try.underlying5))) ?_
    refine AllSure.cons (OpSure.take (v := .pointer (some ⟨q, 0, none⟩)) (by kernel_rfl) (by kernel_rfl) (fun _ _ => (run_nil (q := q) (by kernel_rfl)))) ?_
    refine AllSure.cons (OpSure.take (v := .pointer (some ⟨q, 0, none⟩)) (by kernel_rfl) (by kernel_rfl) (fun _ _ => (by kernel_rfl))) ?_
    refine AllSure.cons (OpSure.take (v := .pointer (some ⟨q, (UInt8.ofNat d.toNat).toNat, none⟩)) (by kernel_rfl) (by kernel_rfl) (fun _ _ => (addr_eq (by omega) (run_addr_k (k := .u8) (q := q) (o := 0) (a := (UInt8.ofNat d.toNat).toNat) (m := 1) Try.underlying46 (fun w => Try.sizeOf5 w) (by kernel_rfl) (by kernel_rfl) (UInt8.toNat_lt (UInt8.ofNat d.toNat)))))) ?_
    refine AllSure.cons (OpSure.take (v := by8 (boxL.getD ((UInt8.ofNat d.toNat).toNat) 0)) (by kernel_rfl) (by kernel_rfl) (fun w' h' => run_load1 (fun w => Try.isAgg5 w) (by kernel_rfl) (((hq.keep h'.old).cell ((UInt8.ofNat d.toNat).toNat)).trans (cc_box l ((UInt8.ofNat d.toNat).toNat) (UInt8.toNat_lt _))))) ?_
    refine AllSure.cons (OpSure.take (v := bv .u32 (BitVec.ofNat 32 (boxL.getD ((UInt8.ofNat d.toNat).toNat) 0).toNat)) (by kernel_rfl) (by kernel_rfl) (fun _ _ => (run_wide (u := boxL.getD ((UInt8.ofNat d.toNat).toNat) 0) WK.s (by kernel_rfl) Try.underlying5 Try.underlying38))) ?_
    refine AllSure.cons (OpSure.take (v := bv .u32 (((((BitVec.ofNat 32 (boxL.getD ((UInt8.ofNat (a >>> 24).toNat).toNat) 0).toNat) <<< 24) ||| ((BitVec.ofNat 32 (boxL.getD ((UInt8.ofNat (b >>> 16).toNat).toNat) 0).toNat) <<< 16)) ||| ((BitVec.ofNat 32 (boxL.getD ((UInt8.ofNat (c >>> 8).toNat).toNat) 0).toNat) <<< 8)) ||| (BitVec.ofNat 32 (boxL.getD ((UInt8.ofNat d.toNat).toNat) 0).toNat))) (by kernel_rfl) (by kernel_rfl) (fun _ _ => (run_orv WK.s (a := (((BitVec.ofNat 32 (boxL.getD ((UInt8.ofNat (a >>> 24).toNat).toNat) 0).toNat) <<< 24) ||| ((BitVec.ofNat 32 (boxL.getD ((UInt8.ofNat (b >>> 16).toNat).toNat) 0).toNat) <<< 16)) ||| ((BitVec.ofNat 32 (boxL.getD ((UInt8.ofNat (c >>> 8).toNat).toNat) 0).toNat) <<< 8)) (b := BitVec.ofNat 32 (boxL.getD ((UInt8.ofNat d.toNat).toNat) 0).toNat) (by kernel_rfl) (by kernel_rfl)))) ?_
    refine AllSure.cons (OpSure.take (v := bv .u32 (((((BitVec.ofNat 32 (boxL.getD ((UInt8.ofNat (a >>> 24).toNat).toNat) 0).toNat) <<< 24) ||| ((BitVec.ofNat 32 (boxL.getD ((UInt8.ofNat (b >>> 16).toNat).toNat) 0).toNat) <<< 16)) ||| ((BitVec.ofNat 32 (boxL.getD ((UInt8.ofNat (c >>> 8).toNat).toNat) 0).toNat) <<< 8)) ||| (BitVec.ofNat 32 (boxL.getD ((UInt8.ofNat d.toNat).toNat) 0).toNat))) (by kernel_rfl) (by kernel_rfl) (fun _ _ => (by kernel_rfl))) ?_
    exact AllSure.nil
  intro w1 h2
  refine then_at (F := ⟨(pt q :: bv .u32 a :: bv .u32 b :: bv .u32 c :: bv .u32 d :: un :: un :: un :: un :: un :: bv .u32 (((((BitVec.ofNat 32 (boxL.getD ((UInt8.ofNat (a >>> 24).toNat).toNat) 0).toNat) <<< 24) ||| ((BitVec.ofNat 32 (boxL.getD ((UInt8.ofNat (b >>> 16).toNat).toNat) 0).toNat) <<< 16)) ||| ((BitVec.ofNat 32 (boxL.getD ((UInt8.ofNat (c >>> 8).toNat).toNat) 0).toNat) <<< 8)) ||| (BitVec.ofNat 32 (boxL.getD ((UInt8.ofNat d.toNat).toNat) 0).toNat)) :: pt q :: bv .u32 a :: bv .u32 (a >>> 24) :: by8 (UInt8.ofNat (a >>> 24).toNat) :: pt q :: pt q :: .pointer (some ⟨q, (UInt8.ofNat (a >>> 24).toNat).toNat, none⟩) :: by8 (boxL.getD ((UInt8.ofNat (a >>> 24).toNat).toNat) 0) :: bv .u32 (BitVec.ofNat 32 (boxL.getD ((UInt8.ofNat (a >>> 24).toNat).toNat) 0).toNat) :: bv .u32 ((BitVec.ofNat 32 (boxL.getD ((UInt8.ofNat (a >>> 24).toNat).toNat) 0).toNat) <<< 24) :: pt q :: bv .u32 b :: bv .u32 (b >>> 16) :: by8 (UInt8.ofNat (b >>> 16).toNat) :: pt q :: pt q :: .pointer (some ⟨q, (UInt8.ofNat (b >>> 16).toNat).toNat, none⟩) :: by8 (boxL.getD ((UInt8.ofNat (b >>> 16).toNat).toNat) 0) :: bv .u32 (BitVec.ofNat 32 (boxL.getD ((UInt8.ofNat (b >>> 16).toNat).toNat) 0).toNat) :: bv .u32 ((BitVec.ofNat 32 (boxL.getD ((UInt8.ofNat (b >>> 16).toNat).toNat) 0).toNat) <<< 16) :: bv .u32 (((BitVec.ofNat 32 (boxL.getD ((UInt8.ofNat (a >>> 24).toNat).toNat) 0).toNat) <<< 24) ||| ((BitVec.ofNat 32 (boxL.getD ((UInt8.ofNat (b >>> 16).toNat).toNat) 0).toNat) <<< 16)) :: pt q :: bv .u32 c :: bv .u32 (c >>> 8) :: by8 (UInt8.ofNat (c >>> 8).toNat) :: pt q :: pt q :: .pointer (some ⟨q, (UInt8.ofNat (c >>> 8).toNat).toNat, none⟩) :: by8 (boxL.getD ((UInt8.ofNat (c >>> 8).toNat).toNat) 0) :: bv .u32 (BitVec.ofNat 32 (boxL.getD ((UInt8.ofNat (c >>> 8).toNat).toNat) 0).toNat) :: bv .u32 ((BitVec.ofNat 32 (boxL.getD ((UInt8.ofNat (c >>> 8).toNat).toNat) 0).toNat) <<< 8) :: bv .u32 ((((BitVec.ofNat 32 (boxL.getD ((UInt8.ofNat (a >>> 24).toNat).toNat) 0).toNat) <<< 24) ||| ((BitVec.ofNat 32 (boxL.getD ((UInt8.ofNat (b >>> 16).toNat).toNat) 0).toNat) <<< 16)) ||| ((BitVec.ofNat 32 (boxL.getD ((UInt8.ofNat (c >>> 8).toNat).toNat) 0).toNat) <<< 8)) :: pt q :: bv .u32 d :: by8 (UInt8.ofNat d.toNat) :: pt q :: pt q :: .pointer (some ⟨q, (UInt8.ofNat d.toNat).toNat, none⟩) :: by8 (boxL.getD ((UInt8.ofNat d.toNat).toNat) 0) :: bv .u32 (BitVec.ofNat 32 (boxL.getD ((UInt8.ofNat d.toNat).toNat) 0).toNat) :: bv .u32 (((((BitVec.ofNat 32 (boxL.getD ((UInt8.ofNat (a >>> 24).toNat).toNat) 0).toNat) <<< 24) ||| ((BitVec.ofNat 32 (boxL.getD ((UInt8.ofNat (b >>> 16).toNat).toNat) 0).toNat) <<< 16)) ||| ((BitVec.ofNat 32 (boxL.getD ((UInt8.ofNat (c >>> 8).toNat).toNat) 0).toNat) <<< 8)) ||| (BitVec.ofNat 32 (boxL.getD ((UInt8.ofNat d.toNat).toNat) 0).toNat)) :: List.replicate 0 un).toArray, []⟩) (by kernel_rfl) ?_
  refine wp_ret ?_
  repeat first | refine then_ret ?_ | refine block_ret ?_
  exact bodyPost_ret (v := bv .u32 (bxW a b c d)) (by kernel_rfl) rfl ⟨rfl, h2.old⟩
end Go.Proofs.Ythljhhhjdajfhaa
