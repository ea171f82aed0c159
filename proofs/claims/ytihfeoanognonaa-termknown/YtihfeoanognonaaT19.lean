/-
  Nil tables, what is told of a term.
-/
import Derived.Test.YtihfeoanognonaaTV
namespace Go.Proofs.Ytihfeoanognonaa
open Go.RowKit

set_option linter.unusedVariables false in
set_option maxRecDepth 100000 in
set_option maxHeartbeats 2000000 in
theorem firstN_a {w : World} (s : ByteArray) (h8 : s.size < 8) :
    Calls Try.prog 33 #[.pointer none, .string s] w fun e w' => e = .returned (.tuple #[iN .i64 0, .bool false]) ∧ Below w.heap.size w w' := by
  have H0 := HA.start w
  go_enter Try.func33, Try.ntmps33
  refine wp_seq ?_
  -- region 0
  refine wl_region ?_
  refine wl_val (iN .i64 0) (by kernel_rfl) (by kernel_rfl) ?_
  refine wl_val (.bool false) (by kernel_rfl) (by kernel_rfl) ?_
  refine wl_nil ?_
  refine then_at (F := ⟨(.pointer none :: .string s :: un :: un :: iN .i64 0 :: .bool false :: List.replicate 28 un).toArray, []⟩) (by kernel_rfl) ?_
  refine wp_seq ?_
  refine wp_seq ?_
  -- region 1
  refine wl_region ?_
  refine wl_val (.string s) (by kernel_rfl) (by kernel_rfl) ?_
  refine wl_val (iN .i64 s.size) (by kernel_rfl) (run_len (s := s) (by kernel_rfl)) ?_
  refine wl_val (.bool true) (by kernel_rfl) (run_lss (k := .i64) (a := s.size) (b := 8) (by kernel_rfl) (by kernel_rfl) true (decide_eq_true (by omega))) ?_
  refine wl_val (.bool true) (by kernel_rfl) (by kernel_rfl) ?_
  refine wl_skip (by kernel_rfl) ?_
  refine wl_skip (by kernel_rfl) ?_
  refine wl_skip (by kernel_rfl) ?_
  refine wl_val (.bool true) (by kernel_rfl) (by kernel_rfl) ?_
  refine wl_nil ?_
  refine then_at (F := ⟨(.pointer none :: .string s :: un :: un :: iN .i64 0 :: .bool false :: un :: un :: .string s :: iN .i64 s.size :: .bool true :: .bool true :: un :: un :: un :: .bool true :: List.replicate 18 un).toArray, []⟩) (by kernel_rfl) ?_
  refine wp_cond_true (by kernel_rfl) ?_
  refine wp_seq ?_
  -- region 2
  refine wl_region ?_
  refine wl_val (iN .i64 0) (by kernel_rfl) (by kernel_rfl) ?_
  refine wl_val (.bool false) (by kernel_rfl) (by kernel_rfl) ?_
  refine wl_nil ?_
  refine then_at (F := ⟨(.pointer none :: .string s :: un :: un :: iN .i64 0 :: .bool false :: un :: un :: .string s :: iN .i64 s.size :: .bool true :: .bool true :: un :: un :: un :: .bool true :: List.replicate 18 un).toArray, []⟩) (by kernel_rfl) ?_
  refine wp_ret ?_
  repeat first | refine then_ret ?_ | refine block_ret ?_
  exact bodyPost_ret (v := .tuple #[iN .i64 0, .bool false]) (by kernel_rfl) rfl ⟨rfl, H0.old.old⟩
set_option linter.unusedVariables false in
set_option maxRecDepth 100000 in
set_option maxHeartbeats 2000000 in
theorem firstN_b {w : World} (s : ByteArray) (h8 : 8 ≤ s.size) (hs : s.extract 0 4 ≠ hdS) :
    Calls Try.prog 33 #[.pointer none, .string s] w fun e w' => e = .returned (.tuple #[iN .i64 0, .bool false]) ∧ Below w.heap.size w w' := by
  have H0 := HA.start w
  have hv := n4_lt s h8
  go_enter Try.func33, Try.ntmps33
  refine wp_seq ?_
  -- region 0
  refine wl_region ?_
  refine wl_val (iN .i64 0) (by kernel_rfl) (by kernel_rfl) ?_
  refine wl_val (.bool false) (by kernel_rfl) (by kernel_rfl) ?_
  refine wl_nil ?_
  refine then_at (F := ⟨(.pointer none :: .string s :: un :: un :: iN .i64 0 :: .bool false :: List.replicate 28 un).toArray, []⟩) (by kernel_rfl) ?_
  refine wp_seq ?_
  refine wp_seq ?_
  -- region 1
  refine wl_region ?_
  refine wl_val (.string s) (by kernel_rfl) (by kernel_rfl) ?_
  refine wl_val (iN .i64 s.size) (by kernel_rfl) (run_len (s := s) (by kernel_rfl)) ?_
  refine wl_val (.bool false) (by kernel_rfl) (run_lss (k := .i64) (a := s.size) (b := 8) (by kernel_rfl) (by kernel_rfl) false (decide_eq_false (by omega))) ?_
  refine wl_val (.bool false) (by kernel_rfl) (by kernel_rfl) ?_
  refine wl_val (.string s) (by kernel_rfl) (by kernel_rfl) ?_
  refine wl_call (v := .bool false) H0 (by kernel_rfl) enter57 #[.string s, .string ({ data := #[240, 84, 82, 77] })] (by kernel_rfl) (pre_no s (by omega) hs w) ?_
  intro w1 h2
  refine wl_val (.bool true) (by kernel_rfl) (by kernel_rfl) ?_
  refine wl_val (.bool true) (by kernel_rfl) (by kernel_rfl) ?_
  refine wl_nil ?_
  refine then_at (F := ⟨(.pointer none :: .string s :: un :: un :: iN .i64 0 :: .bool false :: un :: un :: .string s :: iN .i64 s.size :: .bool false :: .bool false :: .string s :: .bool false :: .bool true :: .bool true :: List.replicate 18 un).toArray, []⟩) (by kernel_rfl) ?_
  refine wp_cond_true (by kernel_rfl) ?_
  refine wp_seq ?_
  -- region 2
  refine wl_region ?_
  refine wl_val (iN .i64 0) (by kernel_rfl) (by kernel_rfl) ?_
  refine wl_val (.bool false) (by kernel_rfl) (by kernel_rfl) ?_
  refine wl_nil ?_
  refine then_at (F := ⟨(.pointer none :: .string s :: un :: un :: iN .i64 0 :: .bool false :: un :: un :: .string s :: iN .i64 s.size :: .bool false :: .bool false :: .string s :: .bool false :: .bool true :: .bool true :: List.replicate 18 un).toArray, []⟩) (by kernel_rfl) ?_
  refine wp_ret ?_
  repeat first | refine then_ret ?_ | refine block_ret ?_
  exact bodyPost_ret (v := .tuple #[iN .i64 0, .bool false]) (by kernel_rfl) rfl ⟨rfl, h2.old.old⟩
set_option linter.unusedVariables false in
set_option maxRecDepth 100000 in
set_option maxHeartbeats 2000000 in
theorem firstN_c {w : World} (s : ByteArray) (h8 : 8 ≤ s.size) (hs : s.extract 0 4 = hdS) :
    Calls Try.prog 33 #[.pointer none, .string s] w fun e w' => e = .returned (.tuple #[iN .i64 0, .bool false]) ∧ Below w.heap.size w w' := by
  have H0 := HA.start w
  have hv := n4_lt s h8
  go_enter Try.func33, Try.ntmps33
  refine wp_seq ?_
  -- region 0
  refine wl_region ?_
  refine wl_val (iN .i64 0) (by kernel_rfl) (by kernel_rfl) ?_
  refine wl_val (.bool false) (by kernel_rfl) (by kernel_rfl) ?_
  refine wl_nil ?_
  refine then_at (F := ⟨(.pointer none :: .string s :: un :: un :: iN .i64 0 :: .bool false :: List.replicate 28 un).toArray, []⟩) (by kernel_rfl) ?_
  refine wp_seq ?_
  refine wp_seq ?_
  -- region 1
  refine wl_region ?_
  refine wl_val (.string s) (by kernel_rfl) (by kernel_rfl) ?_
  refine wl_val (iN .i64 s.size) (by kernel_rfl) (run_len (s := s) (by kernel_rfl)) ?_
  refine wl_val (.bool false) (by kernel_rfl) (run_lss (k := .i64) (a := s.size) (b := 8) (by kernel_rfl) (by kernel_rfl) false (decide_eq_false (by omega))) ?_
  refine wl_val (.bool false) (by kernel_rfl) (by kernel_rfl) ?_
  refine wl_val (.string s) (by kernel_rfl) (by kernel_rfl) ?_
  refine wl_call (v := .bool true) H0 (by kernel_rfl) enter57 #[.string s, .string ({ data := #[240, 84, 82, 77] })] (by kernel_rfl) (pre_yes s (by omega) hs w) ?_
  intro w1 h2
  refine wl_val (.bool false) (by kernel_rfl) (by kernel_rfl) ?_
  refine wl_val (.bool false) (by kernel_rfl) (by kernel_rfl) ?_
  refine wl_nil ?_
  refine then_at (F := ⟨(.pointer none :: .string s :: un :: un :: iN .i64 0 :: .bool false :: un :: un :: .string s :: iN .i64 s.size :: .bool false :: .bool false :: .string s :: .bool true :: .bool false :: .bool false :: List.replicate 18 un).toArray, []⟩) (by kernel_rfl) ?_
  refine wp_cond_false (by kernel_rfl) ?_
  refine wp_skip ?_
  refine then_at (F := ⟨(.pointer none :: .string s :: un :: un :: iN .i64 0 :: .bool false :: un :: un :: .string s :: iN .i64 s.size :: .bool false :: .bool false :: .string s :: .bool true :: .bool false :: .bool false :: List.replicate 18 un).toArray, []⟩) (by kernel_rfl) ?_
  refine wp_seq ?_
  -- region 3
  refine wl_region ?_
  refine wl_val (.string s) (by kernel_rfl) (by kernel_rfl) ?_
  refine wl_val (.string (s.extract 4 8)) (by kernel_rfl) (run_cut2 (s := s) (a := 4) (b := 8) (by kernel_rfl) (by kernel_rfl) (by kernel_rfl) (by decide) (by omega)) ?_
  refine wl_callx (by kernel_rfl) enter58 #[.string (s.extract 4 8)] (by kernel_rfl) (New_4 w1 (s.extract 4 8) (x48 s h8)) ?_
  rintro _ w13 ⟨qb3, rfl, hb4, hl5, hl6, qd7, o8, cap9, hd10, hd11, hr12⟩
  refine ⟨_, rfl, ?_⟩
  have h14 := HA.keep _ _ h2 hb4
  refine wl_callx (by kernel_rfl) enter59 #[.pointer (some ⟨qb3, 0, none⟩), iN .i64 4] (by kernel_rfl) (Number_4 w w13 qb3 qd7 o8 cap9 (s.extract 4 8) (x48 s h8) hr12 hd10 (Nat.le_trans h2.old.old.size hl5) h14.old.old) ?_
  rintro _ w16 ⟨rfl, hw15⟩
  refine ⟨_, rfl, ?_⟩
  have h17 := HA.ofBelow hw15
  refine wl_val (.tuple #[iN .u64 (n4 s), .bool true]) (by kernel_rfl) (by kernel_rfl) ?_
  refine wl_val (iN .u64 (n4 s)) (by kernel_rfl) (by kernel_rfl) ?_
  refine wl_val (.bool true) (by kernel_rfl) (by kernel_rfl) ?_
  refine wl_val (iN .u64 (n4 s)) (by kernel_rfl) (by kernel_rfl) ?_
  refine wl_val (.bool true) (by kernel_rfl) (by kernel_rfl) ?_
  refine wl_nil ?_
  refine then_at (F := ⟨(.pointer none :: .string s :: un :: un :: iN .i64 0 :: .bool false :: iN .u64 (n4 s) :: .bool true :: .string s :: iN .i64 s.size :: .bool false :: .bool false :: .string s :: .bool true :: .bool false :: .bool false :: .tuple #[iN .u64 (n4 s), .bool true] :: .string s :: .string (s.extract 4 8) :: pt qb3 :: .tuple #[iN .u64 (n4 s), .bool true] :: iN .u64 (n4 s) :: .bool true :: List.replicate 11 un).toArray, []⟩) (by kernel_rfl) ?_
  refine wp_seq ?_
  refine wp_seq ?_
  -- region 4
  refine wl_region ?_
  refine wl_val (.bool true) (by kernel_rfl) (by kernel_rfl) ?_
  refine wl_val (.bool false) (by kernel_rfl) (by kernel_rfl) ?_
  refine wl_val (.bool false) (by kernel_rfl) (by kernel_rfl) ?_
  refine wl_val (iN .u64 (n4 s)) (by kernel_rfl) (by kernel_rfl) ?_
  refine wl_val (.pointer none) (by kernel_rfl) (by kernel_rfl) ?_
  refine wl_call (v := iN .i64 0) h17 (by kernel_rfl) enter20 #[.pointer none] (by kernel_rfl) (Len_nil w16) ?_
  intro w18 h19
  refine wl_val (iN .u64 0) (by kernel_rfl) (run_conv .u64 Try.underlying3 Try.underlying77 (by kernel_rfl) (by decide)) ?_
  refine wl_val (.bool true) (by kernel_rfl) (run_geq (k := .u64) (a := n4 s) (b := 0) (by kernel_rfl) (by kernel_rfl) true (decide_eq_true (by omega))) ?_
  refine wl_val (.bool true) (by kernel_rfl) (by kernel_rfl) ?_
  refine wl_nil ?_
  refine then_at (F := ⟨(.pointer none :: .string s :: un :: un :: iN .i64 0 :: .bool false :: iN .u64 (n4 s) :: .bool true :: .string s :: iN .i64 s.size :: .bool false :: .bool false :: .string s :: .bool true :: .bool false :: .bool false :: .tuple #[iN .u64 (n4 s), .bool true] :: .string s :: .string (s.extract 4 8) :: pt qb3 :: .tuple #[iN .u64 (n4 s), .bool true] :: iN .u64 (n4 s) :: .bool true :: .bool true :: .bool false :: .bool false :: iN .u64 (n4 s) :: .pointer none :: iN .i64 0 :: iN .u64 0 :: .bool true :: .bool true :: List.replicate 2 un).toArray, []⟩) (by kernel_rfl) ?_
  refine wp_cond_true (by kernel_rfl) ?_
  refine wp_seq ?_
  -- region 5
  refine wl_region ?_
  refine wl_val (iN .i64 0) (by kernel_rfl) (by kernel_rfl) ?_
  refine wl_val (.bool false) (by kernel_rfl) (by kernel_rfl) ?_
  refine wl_nil ?_
  refine then_at (F := ⟨(.pointer none :: .string s :: un :: un :: iN .i64 0 :: .bool false :: iN .u64 (n4 s) :: .bool true :: .string s :: iN .i64 s.size :: .bool false :: .bool false :: .string s :: .bool true :: .bool false :: .bool false :: .tuple #[iN .u64 (n4 s), .bool true] :: .string s :: .string (s.extract 4 8) :: pt qb3 :: .tuple #[iN .u64 (n4 s), .bool true] :: iN .u64 (n4 s) :: .bool true :: .bool true :: .bool false :: .bool false :: iN .u64 (n4 s) :: .pointer none :: iN .i64 0 :: iN .u64 0 :: .bool true :: .bool true :: List.replicate 2 un).toArray, []⟩) (by kernel_rfl) ?_
  refine wp_ret ?_
  repeat first | refine then_ret ?_ | refine block_ret ?_
  exact bodyPost_ret (v := .tuple #[iN .i64 0, .bool false]) (by kernel_rfl) rfl ⟨rfl, h19.old.old⟩
theorem firstN_any {w : World} (s : ByteArray) :
    Calls Try.prog 33 #[.pointer none, .string s] w fun e w' => e = .returned (.tuple #[iN .i64 0, .bool false]) ∧ Below w.heap.size w w' := by
  by_cases h8 : 8 ≤ s.size
  · by_cases hs : s.extract 0 4 = hdS
    · exact firstN_c s h8 hs
    · exact firstN_b s h8 hs
  · exact firstN_a s (by omega)
set_option linter.unusedVariables false in
set_option maxRecDepth 100000 in
set_option maxHeartbeats 2000000 in
theorem numN_a {w : World} (s : ByteArray) (h8 : s.size = 8) :
    Calls Try.prog 29 #[.pointer none, .string s] w fun e w' => e = .returned (.tuple #[iN .i64 0, .bool false]) ∧ Below w.heap.size w w' := by
  have H0 := HA.start w
  go_enter Try.func29, Try.ntmps29
  refine wp_seq ?_
  -- region 0
  refine wl_region ?_
  refine wl_val (iN .i64 0) (by kernel_rfl) (by kernel_rfl) ?_
  refine wl_val (.bool false) (by kernel_rfl) (by kernel_rfl) ?_
  refine wl_nil ?_
  refine then_at (F := ⟨(.pointer none :: .string s :: un :: un :: iN .i64 0 :: .bool false :: List.replicate 8 un).toArray, []⟩) (by kernel_rfl) ?_
  refine wp_seq ?_
  refine wp_seq ?_
  -- region 1
  refine wl_region ?_
  refine wl_val (.string s) (by kernel_rfl) (by kernel_rfl) ?_
  refine wl_val (iN .i64 s.size) (by kernel_rfl) (run_len (s := s) (by kernel_rfl)) ?_
  refine wl_val (.bool false) (by kernel_rfl) (run_nei (k := .i64) (a := s.size) (b := 8) (by kernel_rfl) (by kernel_rfl) false (decide_eq_false (by omega))) ?_
  refine wl_nil ?_
  refine then_at (F := ⟨(.pointer none :: .string s :: un :: un :: iN .i64 0 :: .bool false :: .string s :: iN .i64 s.size :: .bool false :: List.replicate 5 un).toArray, []⟩) (by kernel_rfl) ?_
  refine wp_cond_false (by kernel_rfl) ?_
  refine wp_skip ?_
  refine then_at (F := ⟨(.pointer none :: .string s :: un :: un :: iN .i64 0 :: .bool false :: .string s :: iN .i64 s.size :: .bool false :: List.replicate 5 un).toArray, []⟩) (by kernel_rfl) ?_
  refine wp_seq ?_
  -- region 3
  refine wl_region ?_
  refine wl_val (.pointer none) (by kernel_rfl) (by kernel_rfl) ?_
  refine wl_val (.string s) (by kernel_rfl) (by kernel_rfl) ?_
  refine wl_call (v := .tuple #[iN .i64 0, .bool false]) H0 (by kernel_rfl) enter33 #[.pointer none, .string s] (by kernel_rfl) (firstN_any s) ?_
  intro w1 h2
  refine wl_val (iN .i64 0) (by kernel_rfl) (by kernel_rfl) ?_
  refine wl_val (.bool false) (by kernel_rfl) (by kernel_rfl) ?_
  refine wl_val (iN .i64 0) (by kernel_rfl) (by kernel_rfl) ?_
  refine wl_val (.bool false) (by kernel_rfl) (by kernel_rfl) ?_
  refine wl_nil ?_
  refine then_at (F := ⟨(.pointer none :: .string s :: un :: un :: iN .i64 0 :: .bool false :: .string s :: iN .i64 s.size :: .bool false :: .pointer none :: .string s :: .tuple #[iN .i64 0, .bool false] :: iN .i64 0 :: .bool false :: List.replicate 0 un).toArray, []⟩) (by kernel_rfl) ?_
  refine wp_ret ?_
  repeat first | refine then_ret ?_ | refine block_ret ?_
  exact bodyPost_ret (v := .tuple #[iN .i64 0, .bool false]) (by kernel_rfl) rfl ⟨rfl, h2.old.old⟩
set_option linter.unusedVariables false in
set_option maxRecDepth 100000 in
set_option maxHeartbeats 2000000 in
theorem numN_b {w : World} (s : ByteArray) (h8 : ¬ s.size = 8) :
    Calls Try.prog 29 #[.pointer none, .string s] w fun e w' => e = .returned (.tuple #[iN .i64 0, .bool false]) ∧ Below w.heap.size w w' := by
  have H0 := HA.start w
  go_enter Try.func29, Try.ntmps29
  refine wp_seq ?_
  -- region 0
  refine wl_region ?_
  refine wl_val (iN .i64 0) (by kernel_rfl) (by kernel_rfl) ?_
  refine wl_val (.bool false) (by kernel_rfl) (by kernel_rfl) ?_
  refine wl_nil ?_
  refine then_at (F := ⟨(.pointer none :: .string s :: un :: un :: iN .i64 0 :: .bool false :: List.replicate 8 un).toArray, []⟩) (by kernel_rfl) ?_
  refine wp_seq ?_
  refine wp_seq ?_
  -- region 1
  refine wl_region ?_
  refine wl_val (.string s) (by kernel_rfl) (by kernel_rfl) ?_
  refine wl_val (iN .i64 s.size) (by kernel_rfl) (run_len (s := s) (by kernel_rfl)) ?_
  refine wl_val (.bool true) (by kernel_rfl) (run_nei (k := .i64) (a := s.size) (b := 8) (by kernel_rfl) (by kernel_rfl) true (decide_eq_true (by omega))) ?_
  refine wl_nil ?_
  refine then_at (F := ⟨(.pointer none :: .string s :: un :: un :: iN .i64 0 :: .bool false :: .string s :: iN .i64 s.size :: .bool true :: List.replicate 5 un).toArray, []⟩) (by kernel_rfl) ?_
  refine wp_cond_true (by kernel_rfl) ?_
  refine wp_seq ?_
  -- region 2
  refine wl_region ?_
  refine wl_val (iN .i64 0) (by kernel_rfl) (by kernel_rfl) ?_
  refine wl_val (.bool false) (by kernel_rfl) (by kernel_rfl) ?_
  refine wl_nil ?_
  refine then_at (F := ⟨(.pointer none :: .string s :: un :: un :: iN .i64 0 :: .bool false :: .string s :: iN .i64 s.size :: .bool true :: List.replicate 5 un).toArray, []⟩) (by kernel_rfl) ?_
  refine wp_ret ?_
  repeat first | refine then_ret ?_ | refine block_ret ?_
  exact bodyPost_ret (v := .tuple #[iN .i64 0, .bool false]) (by kernel_rfl) rfl ⟨rfl, H0.old.old⟩
theorem numN_any {w : World} (s : ByteArray) :
    Calls Try.prog 29 #[.pointer none, .string s] w fun e w' => e = .returned (.tuple #[iN .i64 0, .bool false]) ∧ Below w.heap.size w w' := by
  by_cases h8 : s.size = 8
  · exact numN_a s h8
  · exact numN_b s h8
set_option linter.unusedVariables false in
set_option maxRecDepth 100000 in
set_option maxHeartbeats 2000000 in
theorem Fresh_nil (w : World) :
    Calls Try.prog 17 #[.pointer none] w fun e w' => e = .returned (.string { data := #[] }) ∧ Below w.heap.size w w' := by
  have H0 := HA.start w
  go_enter Try.func17, Try.ntmps17
  refine wp_seq ?_
  -- region 0
  refine wl_region ?_
  refine wl_val (.string ({ data := #[] })) (by kernel_rfl) (by kernel_rfl) ?_
  refine wl_nil ?_
  refine then_at (F := ⟨(.pointer none :: un :: .string ({ data := #[] }) :: List.replicate 26 un).toArray, []⟩) (by kernel_rfl) ?_
  refine wp_seq ?_
  refine wp_seq ?_
  -- region 1
  refine wl_region ?_
  refine wl_val (.pointer none) (by kernel_rfl) (by kernel_rfl) ?_
  refine wl_call (v := .bool true) H0 (by kernel_rfl) enter36 #[.pointer none] (by kernel_rfl) (none_nil w) ?_
  intro w1 h2
  refine wl_nil ?_
  refine then_at (F := ⟨(.pointer none :: un :: .string ({ data := #[] }) :: un :: un :: .pointer none :: .bool true :: List.replicate 22 un).toArray, []⟩) (by kernel_rfl) ?_
  refine wp_cond_true (by kernel_rfl) ?_
  refine wp_seq ?_
  -- region 2
  refine wl_region ?_
  refine wl_val (.string ({ data := #[] })) (by kernel_rfl) (by kernel_rfl) ?_
  refine wl_nil ?_
  refine then_at (F := ⟨(.pointer none :: un :: .string ({ data := #[] }) :: un :: un :: .pointer none :: .bool true :: List.replicate 22 un).toArray, []⟩) (by kernel_rfl) ?_
  refine wp_ret ?_
  repeat first | refine then_ret ?_ | refine block_ret ?_
  exact bodyPost_ret (v := .string { data := #[] }) (by kernel_rfl) rfl ⟨rfl, h2.old.old⟩
set_option linter.unusedVariables false in
set_option maxRecDepth 100000 in
set_option maxHeartbeats 2000000 in
theorem Data_nil (s : ByteArray) (w : World) :
    Calls Try.prog 25 #[.pointer none, .string s] w fun e w' => e = .returned (.string { data := #[] }) ∧ Below w.heap.size w w' := by
  have H0 := HA.start w
  go_enter Try.func25, Try.ntmps25
  refine wp_seq ?_
  -- region 0
  refine wl_region ?_
  refine wl_val (.string ({ data := #[] })) (by kernel_rfl) (by kernel_rfl) ?_
  refine wl_nil ?_
  refine then_at (F := ⟨(.pointer none :: .string s :: un :: un :: .string ({ data := #[] }) :: List.replicate 14 un).toArray, []⟩) (by kernel_rfl) ?_
  refine wp_seq ?_
  refine wp_seq ?_
  -- region 1
  refine wl_region ?_
  refine wl_val (.pointer none) (by kernel_rfl) (by kernel_rfl) ?_
  refine wl_call (v := .bool true) H0 (by kernel_rfl) enter36 #[.pointer none] (by kernel_rfl) (none_nil w) ?_
  intro w1 h2
  refine wl_nil ?_
  refine then_at (F := ⟨(.pointer none :: .string s :: un :: un :: .string ({ data := #[] }) :: un :: un :: .pointer none :: .bool true :: List.replicate 10 un).toArray, []⟩) (by kernel_rfl) ?_
  refine wp_cond_true (by kernel_rfl) ?_
  refine wp_seq ?_
  -- region 2
  refine wl_region ?_
  refine wl_val (.string ({ data := #[] })) (by kernel_rfl) (by kernel_rfl) ?_
  refine wl_nil ?_
  refine then_at (F := ⟨(.pointer none :: .string s :: un :: un :: .string ({ data := #[] }) :: un :: un :: .pointer none :: .bool true :: List.replicate 10 un).toArray, []⟩) (by kernel_rfl) ?_
  refine wp_ret ?_
  repeat first | refine then_ret ?_ | refine block_ret ?_
  exact bodyPost_ret (v := .string { data := #[] }) (by kernel_rfl) rfl ⟨rfl, h2.old.old⟩
set_option linter.unusedVariables false in
set_option maxRecDepth 100000 in
set_option maxHeartbeats 2000000 in
theorem Known_nil (v : Value) (w : World) :
    Calls Try.prog 19 #[.pointer none, v] w fun e w' => e = .returned (.slice none 0 0) ∧ Below w.heap.size w w' := by
  have H0 := HA.start w
  go_enter Try.func19, Try.ntmps19
  refine wp_seq ?_
  -- region 0
  refine wl_region ?_
  refine wl_val (.slice none 0 0) (by kernel_rfl) (by kernel_rfl) ?_
  refine wl_nil ?_
  refine then_at (F := ⟨(.pointer none :: v :: un :: un :: .slice none 0 0 :: List.replicate 64 un).toArray, []⟩) (by kernel_rfl) ?_
  refine wp_seq ?_
  refine wp_seq ?_
  -- region 1
  refine wl_region ?_
  refine wl_val (.pointer none) (by kernel_rfl) (by kernel_rfl) ?_
  refine wl_call (v := .bool true) H0 (by kernel_rfl) enter36 #[.pointer none] (by kernel_rfl) (none_nil w) ?_
  intro w1 h2
  refine wl_nil ?_
  refine then_at (F := ⟨(.pointer none :: v :: un :: un :: .slice none 0 0 :: un :: un :: un :: un :: un :: un :: un :: .pointer none :: .bool true :: List.replicate 55 un).toArray, []⟩) (by kernel_rfl) ?_
  refine wp_cond_true (by kernel_rfl) ?_
  refine wp_seq ?_
  -- region 2
  refine wl_region ?_
  refine wl_val (.slice none 0 0) (by kernel_rfl) (by kernel_rfl) ?_
  refine wl_nil ?_
  refine then_at (F := ⟨(.pointer none :: v :: un :: un :: .slice none 0 0 :: un :: un :: un :: un :: un :: un :: un :: .pointer none :: .bool true :: List.replicate 55 un).toArray, []⟩) (by kernel_rfl) ?_
  refine wp_ret ?_
  repeat first | refine then_ret ?_ | refine block_ret ?_
  exact bodyPost_ret (v := .slice none 0 0) (by kernel_rfl) rfl ⟨rfl, h2.old.old⟩
set_option linter.unusedVariables false in
set_option maxRecDepth 100000 in
set_option maxHeartbeats 2000000 in
theorem Copy_nil (w : World) :
    Calls Try.prog 23 #[.pointer none] w fun e w' => e = .returned (.pointer none) ∧ Below w.heap.size w w' := by
  have H0 := HA.start w
  go_enter Try.func23, Try.ntmps23
  refine wp_seq ?_
  -- region 0
  refine wl_region ?_
  refine wl_val (.pointer none) (by kernel_rfl) (by kernel_rfl) ?_
  refine wl_nil ?_
  refine then_at (F := ⟨(.pointer none :: un :: .pointer none :: List.replicate 23 un).toArray, []⟩) (by kernel_rfl) ?_
  refine wp_seq ?_
  refine wp_seq ?_
  -- region 1
  refine wl_region ?_
  refine wl_val (.pointer none) (by kernel_rfl) (by kernel_rfl) ?_
  refine wl_call (v := .bool true) H0 (by kernel_rfl) enter36 #[.pointer none] (by kernel_rfl) (none_nil w) ?_
  intro w1 h2
  refine wl_nil ?_
  refine then_at (F := ⟨(.pointer none :: un :: .pointer none :: .pointer none :: .bool true :: List.replicate 21 un).toArray, []⟩) (by kernel_rfl) ?_
  refine wp_cond_true (by kernel_rfl) ?_
  refine wp_seq ?_
  -- region 2
  refine wl_region ?_
  refine wl_val (.pointer none) (by kernel_rfl) (by kernel_rfl) ?_
  refine wl_nil ?_
  refine then_at (F := ⟨(.pointer none :: un :: .pointer none :: .pointer none :: .bool true :: List.replicate 21 un).toArray, []⟩) (by kernel_rfl) ?_
  refine wp_ret ?_
  repeat first | refine then_ret ?_ | refine block_ret ?_
  exact bodyPost_ret (v := .pointer none) (by kernel_rfl) rfl ⟨rfl, h2.old.old⟩
set_option linter.unusedVariables false in
set_option maxRecDepth 100000 in
set_option maxHeartbeats 2000000 in
theorem Within_nil {w : World} {m0 : Int} (hv : w.cell? ⟨0, 0, none⟩ = some (.int .i64 m0)) (s : ByteArray) (hs : s.size ≤ 1000000) :
    Calls Try.prog 13 #[.pointer none, .string s] w fun e w' => e = .returned (.slice none 0 0) ∧ Below w.heap.size w w' := by
  have H0 := HA.start w
  go_enter Try.func13, Try.ntmps13
  refine wp_seq ?_
  -- region 0
  refine wl_region ?_
  refine wl_val (.slice none 0 0) (by kernel_rfl) (by kernel_rfl) ?_
  refine wl_nil ?_
  refine then_at (F := ⟨(.pointer none :: .string s :: un :: un :: .slice none 0 0 :: List.replicate 31 un).toArray, []⟩) (by kernel_rfl) ?_
  refine wp_seq ?_
  -- region 1
  refine wl_region ?_
  refine wl_val (.slice none 0 0) (by kernel_rfl) (by kernel_rfl) ?_
  refine wl_nil ?_
  refine then_at (F := ⟨(.pointer none :: .string s :: un :: un :: .slice none 0 0 :: .slice none 0 0 :: List.replicate 30 un).toArray, []⟩) (by kernel_rfl) ?_
  refine wp_seq ?_
  refine wp_seq ?_
  -- region 2
  refine wl_region ?_
  refine wl_val (.string s) (by kernel_rfl) (by kernel_rfl) ?_
  refine wl_call (v := .int .i64 (Lib.index (bl s) (bl hdS))) H0 (by kernel_rfl) enter32 #[.string s, .string ({ data := #[240, 84, 82, 77] })] (by kernel_rfl) (index_any s (by omega) (cell_below H0.old.old hv)) ?_
  intro w1 h2
  refine wl_val (.int .i64 (Lib.index (bl s) (bl hdS))) (by kernel_rfl) (by kernel_rfl) ?_
  refine wl_nil ?_
  refine then_at (F := ⟨(.pointer none :: .string s :: un :: un :: .slice none 0 0 :: .slice none 0 0 :: .int .i64 (Lib.index (bl s) (bl hdS)) :: un :: un :: .string s :: .int .i64 (Lib.index (bl s) (bl hdS)) :: List.replicate 25 un).toArray, []⟩) (by kernel_rfl) ?_
  refine wp_block ?_
  refine wp_while (fun mq A w' => ∃ (s1 : ByteArray) (u3 : Nat → Value), mq = s1.size ∧ A = ⟨(.pointer none :: .string s1 :: un :: un :: .slice none 0 0 :: .slice none 0 0 :: .int .i64 (Lib.index (bl s1) (bl hdS)) :: u3 7 :: u3 8 :: .string s :: .int .i64 (Lib.index (bl s) (bl hdS)) :: u3 11 :: u3 12 :: u3 13 :: u3 14 :: u3 15 :: u3 16 :: u3 17 :: u3 18 :: u3 19 :: u3 20 :: u3 21 :: u3 22 :: u3 23 :: u3 24 :: u3 25 :: u3 26 :: u3 27 :: u3 28 :: u3 29 :: u3 30 :: u3 31 :: List.replicate 4 un).toArray, []⟩ ∧ HA (bs w) [] w' ∧ s1.size ≤ 1000000) s.size ?_ ?_
  · exact ⟨s, fun ii => (([(7, undef), (8, undef), (11, undef), (12, undef), (13, undef), (14, undef), (15, undef), (16, undef), (17, undef), (18, undef), (19, undef), (20, undef), (21, undef), (22, undef), (23, undef), (24, undef), (25, undef), (26, undef), (27, undef), (28, undef), (29, undef), (30, undef), (31, undef)] : List (Nat × Value)).find? (·.1 == ii)).elim undef (·.2), rfl, by kernel_rfl, h2, hs⟩
  rintro _ _ w4 ⟨s1, u3, rfl, rfl, hH, hs1⟩
  rcases Lib.index_spec (bl s1) (bl hdS) with ⟨hi, hno⟩ | ⟨i, hi, hil, hoc, hno⟩
  · rw [hi]
    refine wp_seq ?_
    refine wp_seq ?_
    -- region 3
    refine wl_region ?_
    refine wl_val (.int .i64 (-1)) (by kernel_rfl) (by kernel_rfl) ?_
    refine wl_val (.bool false) (by kernel_rfl) (by kernel_rfl) ?_
    refine wl_nil ?_
    refine then_at (F := ⟨(.pointer none :: .string s1 :: un :: un :: .slice none 0 0 :: .slice none 0 0 :: .int .i64 (-1) :: u3 7 :: u3 8 :: .string s :: .int .i64 (Lib.index (bl s) (bl hdS)) :: .int .i64 (-1) :: .bool false :: u3 13 :: u3 14 :: u3 15 :: u3 16 :: u3 17 :: u3 18 :: u3 19 :: u3 20 :: u3 21 :: u3 22 :: u3 23 :: u3 24 :: u3 25 :: u3 26 :: u3 27 :: u3 28 :: u3 29 :: u3 30 :: u3 31 :: List.replicate 4 un).toArray, []⟩) (by kernel_rfl) ?_
    refine wp_cond_false (by kernel_rfl) ?_
    refine wp_exit ?_
    repeat first | refine then_exit ?_ | refine block_exit ?_ | refine block_exit_ne (by decide) ?_
    refine then_at (F := ⟨(.pointer none :: .string s1 :: un :: un :: .slice none 0 0 :: .slice none 0 0 :: .int .i64 (-1) :: u3 7 :: u3 8 :: .string s :: .int .i64 (Lib.index (bl s) (bl hdS)) :: .int .i64 (-1) :: .bool false :: u3 13 :: u3 14 :: u3 15 :: u3 16 :: u3 17 :: u3 18 :: u3 19 :: u3 20 :: u3 21 :: u3 22 :: u3 23 :: u3 24 :: u3 25 :: u3 26 :: u3 27 :: u3 28 :: u3 29 :: u3 30 :: u3 31 :: List.replicate 4 un).toArray, []⟩) (by kernel_rfl) ?_
    refine wp_seq ?_
    -- region 9
    refine wl_region ?_
    refine wl_val (.slice none 0 0) (by kernel_rfl) (by kernel_rfl) ?_
    refine wl_call (v := .tuple #[]) hH (by kernel_rfl) enter34 #[.slice none 0 0] (by kernel_rfl) (by refine (Try.slices_Sort_int_none none 0 w4).mono ?_; rintro e w2 ⟨rfl, rfl⟩; exact ⟨rfl, Below.refl _ _⟩) ?_
    intro w5 h6
    refine wl_nil ?_
    refine then_at (F := ⟨(.pointer none :: .string s1 :: un :: un :: .slice none 0 0 :: .slice none 0 0 :: .int .i64 (-1) :: u3 7 :: u3 8 :: .string s :: .int .i64 (Lib.index (bl s) (bl hdS)) :: .int .i64 (-1) :: .bool false :: u3 13 :: u3 14 :: u3 15 :: u3 16 :: u3 17 :: u3 18 :: u3 19 :: u3 20 :: u3 21 :: u3 22 :: u3 23 :: u3 24 :: u3 25 :: u3 26 :: u3 27 :: u3 28 :: u3 29 :: u3 30 :: u3 31 :: .slice none 0 0 :: .tuple #[] :: List.replicate 2 un).toArray, []⟩) (by kernel_rfl) ?_
    refine wp_seq ?_
    -- region 10
    refine wl_region ?_
    refine wl_val (.slice none 0 0) (by kernel_rfl) (by kernel_rfl) ?_
    refine wl_call (v := .slice none 0 0) h6 (by kernel_rfl) enter35 #[.slice none 0 0] (by kernel_rfl) (by refine (Try.slices_Compact_int_empty none 0 w5).mono ?_; rintro e w2 ⟨rfl, rfl⟩; exact ⟨rfl, Below.refl _ _⟩) ?_
    intro w7 h8
    refine wl_val (.slice none 0 0) (by kernel_rfl) (by kernel_rfl) ?_
    refine wl_nil ?_
    refine then_at (F := ⟨(.pointer none :: .string s1 :: un :: un :: .slice none 0 0 :: .slice none 0 0 :: .int .i64 (-1) :: u3 7 :: u3 8 :: .string s :: .int .i64 (Lib.index (bl s) (bl hdS)) :: .int .i64 (-1) :: .bool false :: u3 13 :: u3 14 :: u3 15 :: u3 16 :: u3 17 :: u3 18 :: u3 19 :: u3 20 :: u3 21 :: u3 22 :: u3 23 :: u3 24 :: u3 25 :: u3 26 :: u3 27 :: u3 28 :: u3 29 :: u3 30 :: u3 31 :: .slice none 0 0 :: .tuple #[] :: .slice none 0 0 :: .slice none 0 0 :: List.replicate 0 un).toArray, []⟩) (by kernel_rfl) ?_
    refine wp_ret ?_
    repeat first | refine then_ret ?_ | refine block_ret ?_
    exact bodyPost_ret (v := .slice none 0 0) (by kernel_rfl) rfl ⟨rfl, h8.old.old⟩
  · rw [hi]
    have hir := Lib.index_room (bl s1) (bl hdS) (by rw [hi]; omega)
    rw [hi, bl_len, bl_len, show hdS.size = 4 from rfl] at hir
    refine wp_seq ?_
    refine wp_seq ?_
    -- region 3
    refine wl_region ?_
    refine wl_val (iN .i64 i) (by kernel_rfl) (by kernel_rfl) ?_
    refine wl_val (.bool true) (by kernel_rfl) (run_geq (k := .i64) (a := i) (b := 0) (by kernel_rfl) (by kernel_rfl) true (decide_eq_true (by omega))) ?_
    refine wl_nil ?_
    refine then_at (F := ⟨(.pointer none :: .string s1 :: un :: un :: .slice none 0 0 :: .slice none 0 0 :: iN .i64 i :: u3 7 :: u3 8 :: .string s :: .int .i64 (Lib.index (bl s) (bl hdS)) :: iN .i64 i :: .bool true :: u3 13 :: u3 14 :: u3 15 :: u3 16 :: u3 17 :: u3 18 :: u3 19 :: u3 20 :: u3 21 :: u3 22 :: u3 23 :: u3 24 :: u3 25 :: u3 26 :: u3 27 :: u3 28 :: u3 29 :: u3 30 :: u3 31 :: List.replicate 4 un).toArray, []⟩) (by kernel_rfl) ?_
    refine wp_cond_true (by kernel_rfl) ?_
    refine wp_skip ?_
    refine then_at (F := ⟨(.pointer none :: .string s1 :: un :: un :: .slice none 0 0 :: .slice none 0 0 :: iN .i64 i :: u3 7 :: u3 8 :: .string s :: .int .i64 (Lib.index (bl s) (bl hdS)) :: iN .i64 i :: .bool true :: u3 13 :: u3 14 :: u3 15 :: u3 16 :: u3 17 :: u3 18 :: u3 19 :: u3 20 :: u3 21 :: u3 22 :: u3 23 :: u3 24 :: u3 25 :: u3 26 :: u3 27 :: u3 28 :: u3 29 :: u3 30 :: u3 31 :: List.replicate 4 un).toArray, []⟩) (by kernel_rfl) ?_
    refine wp_seq ?_
    refine wp_block ?_
    refine wp_seq ?_
    refine wp_seq ?_
    -- region 5
    refine wl_region ?_
    refine wl_val (.pointer none) (by kernel_rfl) (by kernel_rfl) ?_
    refine wl_val (.string s1) (by kernel_rfl) (by kernel_rfl) ?_
    refine wl_val (iN .i64 i) (by kernel_rfl) (by kernel_rfl) ?_
    refine wl_val (.string (s1.extract i s1.size)) (by kernel_rfl) (run_cut_lo (s := s1) (a := i) (by kernel_rfl) (by kernel_rfl) (by omega)) ?_
    refine wl_call (v := .tuple #[iN .i64 0, .bool false]) hH (by kernel_rfl) enter33 #[.pointer none, .string (s1.extract i s1.size)] (by kernel_rfl) (firstN_any (s1.extract i s1.size)) ?_
    intro w9 h10
    refine wl_val (.tuple #[iN .i64 0, .bool false]) (by kernel_rfl) (by kernel_rfl) ?_
    refine wl_val (iN .i64 0) (by kernel_rfl) (by kernel_rfl) ?_
    refine wl_val (.bool false) (by kernel_rfl) (by kernel_rfl) ?_
    refine wl_val (iN .i64 0) (by kernel_rfl) (by kernel_rfl) ?_
    refine wl_val (.bool false) (by kernel_rfl) (by kernel_rfl) ?_
    refine wl_nil ?_
    refine then_at (F := ⟨(.pointer none :: .string s1 :: un :: un :: .slice none 0 0 :: .slice none 0 0 :: iN .i64 i :: iN .i64 0 :: .bool false :: .string s :: .int .i64 (Lib.index (bl s) (bl hdS)) :: iN .i64 i :: .bool true :: u3 13 :: u3 14 :: .tuple #[iN .i64 0, .bool false] :: .pointer none :: .string s1 :: iN .i64 i :: .string (s1.extract i s1.size) :: .tuple #[iN .i64 0, .bool false] :: iN .i64 0 :: .bool false :: u3 23 :: u3 24 :: u3 25 :: u3 26 :: u3 27 :: u3 28 :: u3 29 :: u3 30 :: u3 31 :: List.replicate 4 un).toArray, []⟩) (by kernel_rfl) ?_
    refine wp_seq ?_
    -- region 6
    refine wl_region ?_
    refine wl_val (.bool false) (by kernel_rfl) (by kernel_rfl) ?_
    refine wl_nil ?_
    refine then_at (F := ⟨(.pointer none :: .string s1 :: un :: un :: .slice none 0 0 :: .slice none 0 0 :: iN .i64 i :: iN .i64 0 :: .bool false :: .string s :: .int .i64 (Lib.index (bl s) (bl hdS)) :: iN .i64 i :: .bool true :: u3 13 :: u3 14 :: .tuple #[iN .i64 0, .bool false] :: .pointer none :: .string s1 :: iN .i64 i :: .string (s1.extract i s1.size) :: .tuple #[iN .i64 0, .bool false] :: iN .i64 0 :: .bool false :: .bool false :: u3 24 :: u3 25 :: u3 26 :: u3 27 :: u3 28 :: u3 29 :: u3 30 :: u3 31 :: List.replicate 4 un).toArray, []⟩) (by kernel_rfl) ?_
    refine wp_cond_false (by kernel_rfl) ?_
    refine wp_skip ?_
    refine then_at (F := ⟨(.pointer none :: .string s1 :: un :: un :: .slice none 0 0 :: .slice none 0 0 :: iN .i64 i :: iN .i64 0 :: .bool false :: .string s :: .int .i64 (Lib.index (bl s) (bl hdS)) :: iN .i64 i :: .bool true :: u3 13 :: u3 14 :: .tuple #[iN .i64 0, .bool false] :: .pointer none :: .string s1 :: iN .i64 i :: .string (s1.extract i s1.size) :: .tuple #[iN .i64 0, .bool false] :: iN .i64 0 :: .bool false :: .bool false :: u3 24 :: u3 25 :: u3 26 :: u3 27 :: u3 28 :: u3 29 :: u3 30 :: u3 31 :: List.replicate 4 un).toArray, []⟩) (by kernel_rfl) ?_
    -- region 8
    refine wl_region ?_
    refine wl_val (.string s1) (by kernel_rfl) (by kernel_rfl) ?_
    refine wl_val (iN .i64 i) (by kernel_rfl) (by kernel_rfl) ?_
    refine wl_val (iN .i64 (i + 4)) (by kernel_rfl) (run_add (k := .i64) (a := i) (b := 4) (by kernel_rfl) (by kernel_rfl) (by simp only [top]; omega)) ?_
    refine wl_val (.string (s1.extract (i + 4) s1.size)) (by kernel_rfl) (run_cut_lo (s := s1) (a := i + 4) (by kernel_rfl) (by kernel_rfl) (by omega)) ?_
    refine wl_val (.string (s1.extract (i + 4) s1.size)) (by kernel_rfl) (by kernel_rfl) ?_
    refine wl_nil ?_
    refine block_normal ?_
    refine then_at (F := ⟨(.pointer none :: .string (s1.extract (i + 4) s1.size) :: un :: un :: .slice none 0 0 :: .slice none 0 0 :: iN .i64 i :: iN .i64 0 :: .bool false :: .string s :: .int .i64 (Lib.index (bl s) (bl hdS)) :: iN .i64 i :: .bool true :: u3 13 :: u3 14 :: .tuple #[iN .i64 0, .bool false] :: .pointer none :: .string s1 :: iN .i64 i :: .string (s1.extract i s1.size) :: .tuple #[iN .i64 0, .bool false] :: iN .i64 0 :: .bool false :: .bool false :: u3 24 :: u3 25 :: u3 26 :: u3 27 :: .string s1 :: iN .i64 i :: iN .i64 (i + 4) :: .string (s1.extract (i + 4) s1.size) :: List.replicate 4 un).toArray, []⟩) (by kernel_rfl) ?_
    -- region 4
    refine wl_region ?_
    refine wl_val (.string (s1.extract (i + 4) s1.size)) (by kernel_rfl) (by kernel_rfl) ?_
    refine wl_call (v := .int .i64 (Lib.index (bl (s1.extract (i + 4) s1.size)) (bl hdS))) h10 (by kernel_rfl) enter32 #[.string (s1.extract (i + 4) s1.size), .string ({ data := #[240, 84, 82, 77] })] (by kernel_rfl) (index_any (s1.extract (i + 4) s1.size) (by rw [ByteArray.size_extract]; omega) (cell_below h10.old.old hv)) ?_
    intro w11 h12
    refine wl_val (.int .i64 (Lib.index (bl (s1.extract (i + 4) s1.size)) (bl hdS))) (by kernel_rfl) (by kernel_rfl) ?_
    refine wl_nil ?_
    exact then_I ⟨(s1.extract (i + 4) s1.size).size, (by rw [ByteArray.size_extract]; omega), s1.extract (i + 4) s1.size, fun ii => (([(7, iN .i64 0), (8, .bool false), (11, iN .i64 i), (12, .bool true), (13, .string (s1.extract (i + 4) s1.size)), (14, .int .i64 (Lib.index (bl (s1.extract (i + 4) s1.size)) (bl hdS))), (15, .tuple #[iN .i64 0, .bool false]), (16, .pointer none), (17, .string s1), (18, iN .i64 i), (19, .string (s1.extract i s1.size)), (20, .tuple #[iN .i64 0, .bool false]), (21, iN .i64 0), (22, .bool false), (23, .bool false), (24, u3 24), (25, u3 25), (26, u3 26), (27, u3 27), (28, .string s1), (29, iN .i64 i), (30, iN .i64 (i + 4)), (31, .string (s1.extract (i + 4) s1.size))] : List (Nat × Value)).find? (·.1 == ii)).elim undef (·.2), rfl, by kernel_rfl, h12, by rw [ByteArray.size_extract]; omega⟩
end Go.Proofs.Ytihfeoanognonaa
