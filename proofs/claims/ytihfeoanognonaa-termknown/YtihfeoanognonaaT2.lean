/-
  first, number: the term whose text bytes are.
-/
import Derived.Test.YtihfeoanognonaaT1
import Derived.Test.YtihfeoanognonaaTW
namespace Go.Proofs.Ytihfeoanognonaa
open Go.RowKit

theorem HA.ofBelow {w w' : World} (h : Below w.heap.size w w') : HA (bs w) [] w' := ⟨⟨h, fun _ h => (by cases h), fun _ h => (by cases h), List.nodup_nil⟩, fun _ h => (by cases h), fun _ h => (by cases h), List.nodup_nil⟩
def n4 (s : ByteArray) : Nat := val (s.extract 4 8).data.toList
def firstT (m : Nat) (s : ByteArray) : Option Nat := if 8 ≤ s.size ∧ s.extract 0 4 = hdS ∧ n4 s < m then some (n4 s) else none
def numT (m : Nat) (s : ByteArray) : Option Nat := if s.size = 8 then firstT m s else none
def onum (o : Option Nat) : Value := .tuple #[iN .i64 (o.getD 0), .bool o.isSome]
theorem x48 (s : ByteArray) (h : 8 ≤ s.size) : (s.extract 4 8).size = 4 := by rw [ByteArray.size_extract]; omega
theorem n4_lt (s : ByteArray) (h : 8 ≤ s.size) : n4 s < 4294967296 := by
  have h1 := val_lt (s.extract 4 8).data.toList
  have h2 : (s.extract 4 8).data.toList.length = 4 := x48 s h
  rw [h2] at h1
  exact h1
set_option linter.unusedVariables false in
set_option maxRecDepth 100000 in
set_option maxHeartbeats 2000000 in
theorem lpre_yes (s : ByteArray) (h4 : 4 ≤ s.size) (hs : s.extract 0 4 = hdS) (w : World) :
    Calls Try.prog 74 #[.string s, .string hdS] w fun e w' => e = .returned (.bool true) ∧ Below w.heap.size w w' := by
  have H0 := HA.start w
  go_enter Try.func74, Try.ntmps74
  refine wp_seq ?_
  -- region 0
  refine wl_region ?_
  refine wl_val (.bool false) (by kernel_rfl) (by kernel_rfl) ?_
  refine wl_nil ?_
  refine then_at (F := ⟨(.string s :: .string hdS :: un :: un :: .bool false :: List.replicate 13 un).toArray, []⟩) (by kernel_rfl) ?_
  refine wp_seq ?_
  -- region 1
  refine wl_region ?_
  refine wl_val (.string s) (by kernel_rfl) (by kernel_rfl) ?_
  refine wl_val (iN .i64 s.size) (by kernel_rfl) (run_len (s := s) (by kernel_rfl)) ?_
  refine wl_val (.string hdS) (by kernel_rfl) (by kernel_rfl) ?_
  refine wl_val (iN .i64 hdS.size) (by kernel_rfl) (run_len (s := hdS) (by kernel_rfl)) ?_
  refine wl_val (.bool true) (by kernel_rfl) (run_geq (k := .i64) (a := s.size) (b := hdS.size) (by kernel_rfl) (by kernel_rfl) true (by rw [show hdS.size = 4 from rfl]; exact decide_eq_true (by omega))) ?_
  refine wl_val (.bool true) (by kernel_rfl) (by kernel_rfl) ?_
  refine wl_val (.string s) (by kernel_rfl) (by kernel_rfl) ?_
  refine wl_val (.string hdS) (by kernel_rfl) (by kernel_rfl) ?_
  refine wl_val (iN .i64 hdS.size) (by kernel_rfl) (run_len (s := hdS) (by kernel_rfl)) ?_
  refine wl_val (.string (s.extract 0 hdS.size)) (by kernel_rfl) (run_cut_hi (s := s) (b := hdS.size) (by kernel_rfl) (by kernel_rfl) (by rw [show hdS.size = 4 from rfl]; omega)) ?_
  refine wl_val (.string hdS) (by kernel_rfl) (by kernel_rfl) ?_
  refine wl_val (.bool true) (by kernel_rfl) (run_eqs (s := s.extract 0 hdS.size) (t := hdS) (by kernel_rfl) (by kernel_rfl) true (decide_eq_true hs)) ?_
  refine wl_val (.bool true) (by kernel_rfl) (by kernel_rfl) ?_
  refine wl_val (.bool true) (by kernel_rfl) (by kernel_rfl) ?_
  refine wl_nil ?_
  refine then_at (F := ⟨(.string s :: .string hdS :: un :: un :: .bool true :: .string s :: iN .i64 s.size :: .string hdS :: iN .i64 hdS.size :: .bool true :: .bool true :: .string s :: .string hdS :: iN .i64 hdS.size :: .string (s.extract 0 hdS.size) :: .string hdS :: .bool true :: .bool true :: List.replicate 0 un).toArray, []⟩) (by kernel_rfl) ?_
  refine wp_ret ?_
  repeat first | refine then_ret ?_ | refine block_ret ?_
  exact bodyPost_ret (v := .bool true) (by kernel_rfl) rfl ⟨rfl, H0.old.old⟩
set_option linter.unusedVariables false in
set_option maxRecDepth 100000 in
set_option maxHeartbeats 2000000 in
theorem pre_yes (s : ByteArray) (h4 : 4 ≤ s.size) (hs : s.extract 0 4 = hdS) (w : World) :
    Calls Try.prog 57 #[.string s, .string hdS] w fun e w' => e = .returned (.bool true) ∧ Below w.heap.size w w' := by
  have H0 := HA.start w
  go_enter Try.func57, Try.ntmps57
  refine wp_seq ?_
  -- region 0
  refine wl_region ?_
  refine wl_val (.bool false) (by kernel_rfl) (by kernel_rfl) ?_
  refine wl_nil ?_
  refine then_at (F := ⟨(.string s :: .string hdS :: un :: un :: .bool false :: List.replicate 3 un).toArray, []⟩) (by kernel_rfl) ?_
  refine wp_seq ?_
  -- region 1
  refine wl_region ?_
  refine wl_val (.string s) (by kernel_rfl) (by kernel_rfl) ?_
  refine wl_val (.string hdS) (by kernel_rfl) (by kernel_rfl) ?_
  refine wl_call (v := .bool true) H0 (by kernel_rfl) enter74 #[.string s, .string hdS] (by kernel_rfl) (lpre_yes s h4 hs w) ?_
  intro w1 h2
  refine wl_val (.bool true) (by kernel_rfl) (by kernel_rfl) ?_
  refine wl_nil ?_
  refine then_at (F := ⟨(.string s :: .string hdS :: un :: un :: .bool true :: .string s :: .string hdS :: .bool true :: List.replicate 0 un).toArray, []⟩) (by kernel_rfl) ?_
  refine wp_ret ?_
  repeat first | refine then_ret ?_ | refine block_ret ?_
  exact bodyPost_ret (v := .bool true) (by kernel_rfl) rfl ⟨rfl, h2.old.old⟩
set_option linter.unusedVariables false in
set_option maxRecDepth 100000 in
set_option maxHeartbeats 2000000 in
theorem lpre_no (s : ByteArray) (h4 : 4 ≤ s.size) (hs : s.extract 0 4 ≠ hdS) (w : World) :
    Calls Try.prog 74 #[.string s, .string hdS] w fun e w' => e = .returned (.bool false) ∧ Below w.heap.size w w' := by
  have H0 := HA.start w
  go_enter Try.func74, Try.ntmps74
  refine wp_seq ?_
  -- region 0
  refine wl_region ?_
  refine wl_val (.bool false) (by kernel_rfl) (by kernel_rfl) ?_
  refine wl_nil ?_
  refine then_at (F := ⟨(.string s :: .string hdS :: un :: un :: .bool false :: List.replicate 13 un).toArray, []⟩) (by kernel_rfl) ?_
  refine wp_seq ?_
  -- region 1
  refine wl_region ?_
  refine wl_val (.string s) (by kernel_rfl) (by kernel_rfl) ?_
  refine wl_val (iN .i64 s.size) (by kernel_rfl) (run_len (s := s) (by kernel_rfl)) ?_
  refine wl_val (.string hdS) (by kernel_rfl) (by kernel_rfl) ?_
  refine wl_val (iN .i64 hdS.size) (by kernel_rfl) (run_len (s := hdS) (by kernel_rfl)) ?_
  refine wl_val (.bool true) (by kernel_rfl) (run_geq (k := .i64) (a := s.size) (b := hdS.size) (by kernel_rfl) (by kernel_rfl) true (by rw [show hdS.size = 4 from rfl]; exact decide_eq_true (by omega))) ?_
  refine wl_val (.bool true) (by kernel_rfl) (by kernel_rfl) ?_
  refine wl_val (.string s) (by kernel_rfl) (by kernel_rfl) ?_
  refine wl_val (.string hdS) (by kernel_rfl) (by kernel_rfl) ?_
  refine wl_val (iN .i64 hdS.size) (by kernel_rfl) (run_len (s := hdS) (by kernel_rfl)) ?_
  refine wl_val (.string (s.extract 0 hdS.size)) (by kernel_rfl) (run_cut_hi (s := s) (b := hdS.size) (by kernel_rfl) (by kernel_rfl) (by rw [show hdS.size = 4 from rfl]; omega)) ?_
  refine wl_val (.string hdS) (by kernel_rfl) (by kernel_rfl) ?_
  refine wl_val (.bool false) (by kernel_rfl) (run_eqs (s := s.extract 0 hdS.size) (t := hdS) (by kernel_rfl) (by kernel_rfl) false (decide_eq_false hs)) ?_
  refine wl_val (.bool false) (by kernel_rfl) (by kernel_rfl) ?_
  refine wl_val (.bool false) (by kernel_rfl) (by kernel_rfl) ?_
  refine wl_nil ?_
  refine then_at (F := ⟨(.string s :: .string hdS :: un :: un :: .bool false :: .string s :: iN .i64 s.size :: .string hdS :: iN .i64 hdS.size :: .bool true :: .bool true :: .string s :: .string hdS :: iN .i64 hdS.size :: .string (s.extract 0 hdS.size) :: .string hdS :: .bool false :: .bool false :: List.replicate 0 un).toArray, []⟩) (by kernel_rfl) ?_
  refine wp_ret ?_
  repeat first | refine then_ret ?_ | refine block_ret ?_
  exact bodyPost_ret (v := .bool false) (by kernel_rfl) rfl ⟨rfl, H0.old.old⟩
set_option linter.unusedVariables false in
set_option maxRecDepth 100000 in
set_option maxHeartbeats 2000000 in
theorem pre_no (s : ByteArray) (h4 : 4 ≤ s.size) (hs : s.extract 0 4 ≠ hdS) (w : World) :
    Calls Try.prog 57 #[.string s, .string hdS] w fun e w' => e = .returned (.bool false) ∧ Below w.heap.size w w' := by
  have H0 := HA.start w
  go_enter Try.func57, Try.ntmps57
  refine wp_seq ?_
  -- region 0
  refine wl_region ?_
  refine wl_val (.bool false) (by kernel_rfl) (by kernel_rfl) ?_
  refine wl_nil ?_
  refine then_at (F := ⟨(.string s :: .string hdS :: un :: un :: .bool false :: List.replicate 3 un).toArray, []⟩) (by kernel_rfl) ?_
  refine wp_seq ?_
  -- region 1
  refine wl_region ?_
  refine wl_val (.string s) (by kernel_rfl) (by kernel_rfl) ?_
  refine wl_val (.string hdS) (by kernel_rfl) (by kernel_rfl) ?_
  refine wl_call (v := .bool false) H0 (by kernel_rfl) enter74 #[.string s, .string hdS] (by kernel_rfl) (lpre_no s h4 hs w) ?_
  intro w1 h2
  refine wl_val (.bool false) (by kernel_rfl) (by kernel_rfl) ?_
  refine wl_nil ?_
  refine then_at (F := ⟨(.string s :: .string hdS :: un :: un :: .bool false :: .string s :: .string hdS :: .bool false :: List.replicate 0 un).toArray, []⟩) (by kernel_rfl) ?_
  refine wp_ret ?_
  repeat first | refine then_ret ?_ | refine block_ret ?_
  exact bodyPost_ret (v := .bool false) (by kernel_rfl) rfl ⟨rfl, h2.old.old⟩
set_option linter.unusedVariables false in
set_option maxRecDepth 100000 in
set_option maxHeartbeats 2000000 in
theorem first_a {w : World} {q : Nat} {t : Tb} {n m c : Nat} {p : Option Addr} (hq : Blk w q 74 (tcell t n (.slice p m c))) (hm : m ≤ 65536) (s : ByteArray) (h8 : s.size < 8) :
    Calls Try.prog 33 #[pt q, .string s] w fun e w' => e = .returned (onum (firstT m s)) ∧ Below w.heap.size w w' := by
  have H0 := HA.start w
  go_enter Try.func33, Try.ntmps33
  refine wp_seq ?_
  -- region 0
  refine wl_region ?_
  refine wl_val (iN .i64 0) (by kernel_rfl) (by kernel_rfl) ?_
  refine wl_val (.bool false) (by kernel_rfl) (by kernel_rfl) ?_
  refine wl_nil ?_
  refine then_at (F := ⟨(pt q :: .string s :: un :: un :: iN .i64 0 :: .bool false :: List.replicate 28 un).toArray, []⟩) (by kernel_rfl) ?_
  refine wp_seq ?_
  refine wp_seq ?_
  -- region 1
  refine wl_region ?_
  refine wl_val (.string s) (by kernel_rfl) (by kernel_rfl) ?_
  refine wl_val (iN .i64 s.size) (by kernel_rfl) (run_len (s := s) (by kernel_rfl)) ?_
  refine wl_val (.bool true) (by kernel_rfl) (run_lss (k := .i64) (a := s.size) (b := 8) (by kernel_rfl) (by kernel_rfl) true (decide_eq_true (by omega))) ?_
  refine wl_val (.bool true) (by kernel_rfl) (by kernel_rfl) ?_
  refine wl_skip (by kernel_rfl) ?_
  refine wl_skip (by kernel_rfl) ?_
  refine wl_skip (by kernel_rfl) ?_
  refine wl_val (.bool true) (by kernel_rfl) (by kernel_rfl) ?_
  refine wl_nil ?_
  refine then_at (F := ⟨(pt q :: .string s :: un :: un :: iN .i64 0 :: .bool false :: un :: un :: .string s :: iN .i64 s.size :: .bool true :: .bool true :: un :: un :: un :: .bool true :: List.replicate 18 un).toArray, []⟩) (by kernel_rfl) ?_
  refine wp_cond_true (by kernel_rfl) ?_
  refine wp_seq ?_
  -- region 2
  refine wl_region ?_
  refine wl_val (iN .i64 0) (by kernel_rfl) (by kernel_rfl) ?_
  refine wl_val (.bool false) (by kernel_rfl) (by kernel_rfl) ?_
  refine wl_nil ?_
  refine then_at (F := ⟨(pt q :: .string s :: un :: un :: iN .i64 0 :: .bool false :: un :: un :: .string s :: iN .i64 s.size :: .bool true :: .bool true :: un :: un :: un :: .bool true :: List.replicate 18 un).toArray, []⟩) (by kernel_rfl) ?_
  refine wp_ret ?_
  repeat first | refine then_ret ?_ | refine block_ret ?_
  exact bodyPost_ret (v := .tuple #[iN .i64 0, .bool false]) (by kernel_rfl) rfl ⟨by rw [firstT, if_neg (by omega)]; rfl, H0.old.old⟩
set_option linter.unusedVariables false in
set_option maxRecDepth 100000 in
set_option maxHeartbeats 2000000 in
theorem first_b {w : World} {q : Nat} {t : Tb} {n m c : Nat} {p : Option Addr} (hq : Blk w q 74 (tcell t n (.slice p m c))) (hm : m ≤ 65536) (s : ByteArray) (h8 : 8 ≤ s.size) (hs : s.extract 0 4 ≠ hdS) :
    Calls Try.prog 33 #[pt q, .string s] w fun e w' => e = .returned (onum (firstT m s)) ∧ Below w.heap.size w w' := by
  have H0 := HA.start w
  have hv := n4_lt s h8
  go_enter Try.func33, Try.ntmps33
  refine wp_seq ?_
  -- region 0
  refine wl_region ?_
  refine wl_val (iN .i64 0) (by kernel_rfl) (by kernel_rfl) ?_
  refine wl_val (.bool false) (by kernel_rfl) (by kernel_rfl) ?_
  refine wl_nil ?_
  refine then_at (F := ⟨(pt q :: .string s :: un :: un :: iN .i64 0 :: .bool false :: List.replicate 28 un).toArray, []⟩) (by kernel_rfl) ?_
  refine wp_seq ?_
  refine wp_seq ?_
  -- region 1
  refine wl_region ?_
  refine wl_val (.string s) (by kernel_rfl) (by kernel_rfl) ?_
  refine wl_val (iN .i64 s.size) (by kernel_rfl) (run_len (s := s) (by kernel_rfl)) ?_
  refine wl_val (.bool false) (by kernel_rfl) (run_lss (k := .i64) (a := s.size) (b := 8) (by kernel_rfl) (by kernel_rfl) false (decide_eq_false (by omega))) ?_
  refine wl_val (.bool false) (by kernel_rfl) (by kernel_rfl) ?_
  refine wl_val (.string s) (by kernel_rfl) (by kernel_rfl) ?_
  refine wl_call (v := .bool false) H0 (by kernel_rfl) enter57 #[.string s, .string ({ data := #[240, 84, 82, 77] })] (by kernel_rfl) (pre_no s (by omega) hs w) ?_
  intro w1 h2
  refine wl_val (.bool true) (by kernel_rfl) (by kernel_rfl) ?_
  refine wl_val (.bool true) (by kernel_rfl) (by kernel_rfl) ?_
  refine wl_nil ?_
  refine then_at (F := ⟨(pt q :: .string s :: un :: un :: iN .i64 0 :: .bool false :: un :: un :: .string s :: iN .i64 s.size :: .bool false :: .bool false :: .string s :: .bool false :: .bool true :: .bool true :: List.replicate 18 un).toArray, []⟩) (by kernel_rfl) ?_
  refine wp_cond_true (by kernel_rfl) ?_
  refine wp_seq ?_
  -- region 2
  refine wl_region ?_
  refine wl_val (iN .i64 0) (by kernel_rfl) (by kernel_rfl) ?_
  refine wl_val (.bool false) (by kernel_rfl) (by kernel_rfl) ?_
  refine wl_nil ?_
  refine then_at (F := ⟨(pt q :: .string s :: un :: un :: iN .i64 0 :: .bool false :: un :: un :: .string s :: iN .i64 s.size :: .bool false :: .bool false :: .string s :: .bool false :: .bool true :: .bool true :: List.replicate 18 un).toArray, []⟩) (by kernel_rfl) ?_
  refine wp_ret ?_
  repeat first | refine then_ret ?_ | refine block_ret ?_
  exact bodyPost_ret (v := .tuple #[iN .i64 0, .bool false]) (by kernel_rfl) rfl ⟨by rw [firstT, if_neg (fun h => hs h.2.1)]; rfl, h2.old.old⟩
set_option linter.unusedVariables false in
set_option maxRecDepth 100000 in
set_option maxHeartbeats 2000000 in
theorem first_c {w : World} {q : Nat} {t : Tb} {n m c : Nat} {p : Option Addr} (hq : Blk w q 74 (tcell t n (.slice p m c))) (hm : m ≤ 65536) (s : ByteArray) (h8 : 8 ≤ s.size) (hs : s.extract 0 4 = hdS) (hg : m ≤ n4 s) :
    Calls Try.prog 33 #[pt q, .string s] w fun e w' => e = .returned (onum (firstT m s)) ∧ Below w.heap.size w w' := by
  have H0 := HA.start w
  have hv := n4_lt s h8
  go_enter Try.func33, Try.ntmps33
  refine wp_seq ?_
  -- region 0
  refine wl_region ?_
  refine wl_val (iN .i64 0) (by kernel_rfl) (by kernel_rfl) ?_
  refine wl_val (.bool false) (by kernel_rfl) (by kernel_rfl) ?_
  refine wl_nil ?_
  refine then_at (F := ⟨(pt q :: .string s :: un :: un :: iN .i64 0 :: .bool false :: List.replicate 28 un).toArray, []⟩) (by kernel_rfl) ?_
  refine wp_seq ?_
  refine wp_seq ?_
  -- region 1
  refine wl_region ?_
  refine wl_val (.string s) (by kernel_rfl) (by kernel_rfl) ?_
  refine wl_val (iN .i64 s.size) (by kernel_rfl) (run_len (s := s) (by kernel_rfl)) ?_
  refine wl_val (.bool false) (by kernel_rfl) (run_lss (k := .i64) (a := s.size) (b := 8) (by kernel_rfl) (by kernel_rfl) false (decide_eq_false (by omega))) ?_
  refine wl_val (.bool false) (by kernel_rfl) (by kernel_rfl) ?_
  refine wl_val (.string s) (by kernel_rfl) (by kernel_rfl) ?_
  refine wl_call (v := .bool true) H0 (by kernel_rfl) enter57 #[.string s, .string ({ data := #[240, 84, 82, 77] })] (by kernel_rfl) (pre_yes s (by omega) hs w) ?_
  intro w1 h2
  refine wl_val (.bool false) (by kernel_rfl) (by kernel_rfl) ?_
  refine wl_val (.bool false) (by kernel_rfl) (by kernel_rfl) ?_
  refine wl_nil ?_
  refine then_at (F := ⟨(pt q :: .string s :: un :: un :: iN .i64 0 :: .bool false :: un :: un :: .string s :: iN .i64 s.size :: .bool false :: .bool false :: .string s :: .bool true :: .bool false :: .bool false :: List.replicate 18 un).toArray, []⟩) (by kernel_rfl) ?_
  refine wp_cond_false (by kernel_rfl) ?_
  refine wp_skip ?_
  refine then_at (F := ⟨(pt q :: .string s :: un :: un :: iN .i64 0 :: .bool false :: un :: un :: .string s :: iN .i64 s.size :: .bool false :: .bool false :: .string s :: .bool true :: .bool false :: .bool false :: List.replicate 18 un).toArray, []⟩) (by kernel_rfl) ?_
  refine wp_seq ?_
  -- region 3
  refine wl_region ?_
  refine wl_val (.string s) (by kernel_rfl) (by kernel_rfl) ?_
  refine wl_val (.string (s.extract 4 8)) (by kernel_rfl) (run_cut2 (s := s) (a := 4) (b := 8) (by kernel_rfl) (by kernel_rfl) (by kernel_rfl) (by decide) (by omega)) ?_
  refine wl_callx (by kernel_rfl) enter58 #[.string (s.extract 4 8)] (by kernel_rfl) (New_4 w1 (s.extract 4 8) (x48 s h8)) ?_
  rintro _ w13 ⟨qb3, rfl, hb4, hl5, hl6, qd7, o8, cap9, hd10, hd11, hr12⟩
  refine ⟨_, rfl, ?_⟩
  have h14 := HA.keep _ _ h2 hb4
  refine wl_callx (by kernel_rfl) enter59 #[.pointer (some ⟨qb3, 0, none⟩), iN .i64 4] (by kernel_rfl) (Number_4 w w13 qb3 qd7 o8 cap9 (s.extract 4 8) (x48 s h8) hr12 hd10 (Nat.le_trans h2.old.old.size hl5) h14.old.old) ?_
  rintro _ w16 ⟨rfl, hw15⟩
  refine ⟨_, rfl, ?_⟩
  have h17 := HA.ofBelow hw15
  refine wl_val (.tuple #[iN .u64 (n4 s), .bool true]) (by kernel_rfl) (by kernel_rfl) ?_
  refine wl_val (iN .u64 (n4 s)) (by kernel_rfl) (by kernel_rfl) ?_
  refine wl_val (.bool true) (by kernel_rfl) (by kernel_rfl) ?_
  refine wl_val (iN .u64 (n4 s)) (by kernel_rfl) (by kernel_rfl) ?_
  refine wl_val (.bool true) (by kernel_rfl) (by kernel_rfl) ?_
  refine wl_nil ?_
  refine then_at (F := ⟨(pt q :: .string s :: un :: un :: iN .i64 0 :: .bool false :: iN .u64 (n4 s) :: .bool true :: .string s :: iN .i64 s.size :: .bool false :: .bool false :: .string s :: .bool true :: .bool false :: .bool false :: .tuple #[iN .u64 (n4 s), .bool true] :: .string s :: .string (s.extract 4 8) :: pt qb3 :: .tuple #[iN .u64 (n4 s), .bool true] :: iN .u64 (n4 s) :: .bool true :: List.replicate 11 un).toArray, []⟩) (by kernel_rfl) ?_
  refine wp_seq ?_
  refine wp_seq ?_
  -- region 4
  refine wl_region ?_
  refine wl_val (.bool true) (by kernel_rfl) (by kernel_rfl) ?_
  refine wl_val (.bool false) (by kernel_rfl) (by kernel_rfl) ?_
  refine wl_val (.bool false) (by kernel_rfl) (by kernel_rfl) ?_
  refine wl_val (iN .u64 (n4 s)) (by kernel_rfl) (by kernel_rfl) ?_
  refine wl_val (.pointer (some ⟨q, 0, none⟩)) (by kernel_rfl) (by kernel_rfl) ?_
  refine wl_call (v := iN .i64 m) h17 (by kernel_rfl) enter20 #[.pointer (some ⟨q, 0, none⟩)] (by kernel_rfl) (Len_any (hq.keep h17.old.old)) ?_
  intro w18 h19
  refine wl_val (iN .u64 m) (by kernel_rfl) (run_conv .u64 Try.underlying3 Try.underlying77 (by kernel_rfl) (by simp only [top]; omega)) ?_
  refine wl_val (.bool true) (by kernel_rfl) (run_geq (k := .u64) (a := n4 s) (b := m) (by kernel_rfl) (by kernel_rfl) true (decide_eq_true (by omega))) ?_
  refine wl_val (.bool true) (by kernel_rfl) (by kernel_rfl) ?_
  refine wl_nil ?_
  refine then_at (F := ⟨(pt q :: .string s :: un :: un :: iN .i64 0 :: .bool false :: iN .u64 (n4 s) :: .bool true :: .string s :: iN .i64 s.size :: .bool false :: .bool false :: .string s :: .bool true :: .bool false :: .bool false :: .tuple #[iN .u64 (n4 s), .bool true] :: .string s :: .string (s.extract 4 8) :: pt qb3 :: .tuple #[iN .u64 (n4 s), .bool true] :: iN .u64 (n4 s) :: .bool true :: .bool true :: .bool false :: .bool false :: iN .u64 (n4 s) :: pt q :: iN .i64 m :: iN .u64 m :: .bool true :: .bool true :: List.replicate 2 un).toArray, []⟩) (by kernel_rfl) ?_
  refine wp_cond_true (by kernel_rfl) ?_
  refine wp_seq ?_
  -- region 5
  refine wl_region ?_
  refine wl_val (iN .i64 0) (by kernel_rfl) (by kernel_rfl) ?_
  refine wl_val (.bool false) (by kernel_rfl) (by kernel_rfl) ?_
  refine wl_nil ?_
  refine then_at (F := ⟨(pt q :: .string s :: un :: un :: iN .i64 0 :: .bool false :: iN .u64 (n4 s) :: .bool true :: .string s :: iN .i64 s.size :: .bool false :: .bool false :: .string s :: .bool true :: .bool false :: .bool false :: .tuple #[iN .u64 (n4 s), .bool true] :: .string s :: .string (s.extract 4 8) :: pt qb3 :: .tuple #[iN .u64 (n4 s), .bool true] :: iN .u64 (n4 s) :: .bool true :: .bool true :: .bool false :: .bool false :: iN .u64 (n4 s) :: pt q :: iN .i64 m :: iN .u64 m :: .bool true :: .bool true :: List.replicate 2 un).toArray, []⟩) (by kernel_rfl) ?_
  refine wp_ret ?_
  repeat first | refine then_ret ?_ | refine block_ret ?_
  exact bodyPost_ret (v := .tuple #[iN .i64 0, .bool false]) (by kernel_rfl) rfl ⟨by rw [firstT, if_neg (fun h => by omega)]; rfl, h19.old.old⟩
set_option linter.unusedVariables false in
set_option maxRecDepth 100000 in
set_option maxHeartbeats 2000000 in
theorem first_d {w : World} {q : Nat} {t : Tb} {n m c : Nat} {p : Option Addr} (hq : Blk w q 74 (tcell t n (.slice p m c))) (hm : m ≤ 65536) (s : ByteArray) (h8 : 8 ≤ s.size) (hs : s.extract 0 4 = hdS) (hg : n4 s < m) :
    Calls Try.prog 33 #[pt q, .string s] w fun e w' => e = .returned (onum (firstT m s)) ∧ Below w.heap.size w w' := by
  have H0 := HA.start w
  have hv := n4_lt s h8
  go_enter Try.func33, Try.ntmps33
  refine wp_seq ?_
  -- region 0
  refine wl_region ?_
  refine wl_val (iN .i64 0) (by kernel_rfl) (by kernel_rfl) ?_
  refine wl_val (.bool false) (by kernel_rfl) (by kernel_rfl) ?_
  refine wl_nil ?_
  refine then_at (F := ⟨(pt q :: .string s :: un :: un :: iN .i64 0 :: .bool false :: List.replicate 28 un).toArray, []⟩) (by kernel_rfl) ?_
  refine wp_seq ?_
  refine wp_seq ?_
  -- region 1
  refine wl_region ?_
  refine wl_val (.string s) (by kernel_rfl) (by kernel_rfl) ?_
  refine wl_val (iN .i64 s.size) (by kernel_rfl) (run_len (s := s) (by kernel_rfl)) ?_
  refine wl_val (.bool false) (by kernel_rfl) (run_lss (k := .i64) (a := s.size) (b := 8) (by kernel_rfl) (by kernel_rfl) false (decide_eq_false (by omega))) ?_
  refine wl_val (.bool false) (by kernel_rfl) (by kernel_rfl) ?_
  refine wl_val (.string s) (by kernel_rfl) (by kernel_rfl) ?_
  refine wl_call (v := .bool true) H0 (by kernel_rfl) enter57 #[.string s, .string ({ data := #[240, 84, 82, 77] })] (by kernel_rfl) (pre_yes s (by omega) hs w) ?_
  intro w1 h2
  refine wl_val (.bool false) (by kernel_rfl) (by kernel_rfl) ?_
  refine wl_val (.bool false) (by kernel_rfl) (by kernel_rfl) ?_
  refine wl_nil ?_
  refine then_at (F := ⟨(pt q :: .string s :: un :: un :: iN .i64 0 :: .bool false :: un :: un :: .string s :: iN .i64 s.size :: .bool false :: .bool false :: .string s :: .bool true :: .bool false :: .bool false :: List.replicate 18 un).toArray, []⟩) (by kernel_rfl) ?_
  refine wp_cond_false (by kernel_rfl) ?_
  refine wp_skip ?_
  refine then_at (F := ⟨(pt q :: .string s :: un :: un :: iN .i64 0 :: .bool false :: un :: un :: .string s :: iN .i64 s.size :: .bool false :: .bool false :: .string s :: .bool true :: .bool false :: .bool false :: List.replicate 18 un).toArray, []⟩) (by kernel_rfl) ?_
  refine wp_seq ?_
  -- region 3
  refine wl_region ?_
  refine wl_val (.string s) (by kernel_rfl) (by kernel_rfl) ?_
  refine wl_val (.string (s.extract 4 8)) (by kernel_rfl) (run_cut2 (s := s) (a := 4) (b := 8) (by kernel_rfl) (by kernel_rfl) (by kernel_rfl) (by decide) (by omega)) ?_
  refine wl_callx (by kernel_rfl) enter58 #[.string (s.extract 4 8)] (by kernel_rfl) (New_4 w1 (s.extract 4 8) (x48 s h8)) ?_
  rintro _ w13 ⟨qb3, rfl, hb4, hl5, hl6, qd7, o8, cap9, hd10, hd11, hr12⟩
  refine ⟨_, rfl, ?_⟩
  have h14 := HA.keep _ _ h2 hb4
  refine wl_callx (by kernel_rfl) enter59 #[.pointer (some ⟨qb3, 0, none⟩), iN .i64 4] (by kernel_rfl) (Number_4 w w13 qb3 qd7 o8 cap9 (s.extract 4 8) (x48 s h8) hr12 hd10 (Nat.le_trans h2.old.old.size hl5) h14.old.old) ?_
  rintro _ w16 ⟨rfl, hw15⟩
  refine ⟨_, rfl, ?_⟩
  have h17 := HA.ofBelow hw15
  refine wl_val (.tuple #[iN .u64 (n4 s), .bool true]) (by kernel_rfl) (by kernel_rfl) ?_
  refine wl_val (iN .u64 (n4 s)) (by kernel_rfl) (by kernel_rfl) ?_
  refine wl_val (.bool true) (by kernel_rfl) (by kernel_rfl) ?_
  refine wl_val (iN .u64 (n4 s)) (by kernel_rfl) (by kernel_rfl) ?_
  refine wl_val (.bool true) (by kernel_rfl) (by kernel_rfl) ?_
  refine wl_nil ?_
  refine then_at (F := ⟨(pt q :: .string s :: un :: un :: iN .i64 0 :: .bool false :: iN .u64 (n4 s) :: .bool true :: .string s :: iN .i64 s.size :: .bool false :: .bool false :: .string s :: .bool true :: .bool false :: .bool false :: .tuple #[iN .u64 (n4 s), .bool true] :: .string s :: .string (s.extract 4 8) :: pt qb3 :: .tuple #[iN .u64 (n4 s), .bool true] :: iN .u64 (n4 s) :: .bool true :: List.replicate 11 un).toArray, []⟩) (by kernel_rfl) ?_
  refine wp_seq ?_
  refine wp_seq ?_
  -- region 4
  refine wl_region ?_
  refine wl_val (.bool true) (by kernel_rfl) (by kernel_rfl) ?_
  refine wl_val (.bool false) (by kernel_rfl) (by kernel_rfl) ?_
  refine wl_val (.bool false) (by kernel_rfl) (by kernel_rfl) ?_
  refine wl_val (iN .u64 (n4 s)) (by kernel_rfl) (by kernel_rfl) ?_
  refine wl_val (.pointer (some ⟨q, 0, none⟩)) (by kernel_rfl) (by kernel_rfl) ?_
  refine wl_call (v := iN .i64 m) h17 (by kernel_rfl) enter20 #[.pointer (some ⟨q, 0, none⟩)] (by kernel_rfl) (Len_any (hq.keep h17.old.old)) ?_
  intro w18 h19
  refine wl_val (iN .u64 m) (by kernel_rfl) (run_conv .u64 Try.underlying3 Try.underlying77 (by kernel_rfl) (by simp only [top]; omega)) ?_
  refine wl_val (.bool false) (by kernel_rfl) (run_geq (k := .u64) (a := n4 s) (b := m) (by kernel_rfl) (by kernel_rfl) false (decide_eq_false (by omega))) ?_
  refine wl_val (.bool false) (by kernel_rfl) (by kernel_rfl) ?_
  refine wl_nil ?_
  refine then_at (F := ⟨(pt q :: .string s :: un :: un :: iN .i64 0 :: .bool false :: iN .u64 (n4 s) :: .bool true :: .string s :: iN .i64 s.size :: .bool false :: .bool false :: .string s :: .bool true :: .bool false :: .bool false :: .tuple #[iN .u64 (n4 s), .bool true] :: .string s :: .string (s.extract 4 8) :: pt qb3 :: .tuple #[iN .u64 (n4 s), .bool true] :: iN .u64 (n4 s) :: .bool true :: .bool true :: .bool false :: .bool false :: iN .u64 (n4 s) :: pt q :: iN .i64 m :: iN .u64 m :: .bool false :: .bool false :: List.replicate 2 un).toArray, []⟩) (by kernel_rfl) ?_
  refine wp_cond_false (by kernel_rfl) ?_
  refine wp_skip ?_
  refine then_at (F := ⟨(pt q :: .string s :: un :: un :: iN .i64 0 :: .bool false :: iN .u64 (n4 s) :: .bool true :: .string s :: iN .i64 s.size :: .bool false :: .bool false :: .string s :: .bool true :: .bool false :: .bool false :: .tuple #[iN .u64 (n4 s), .bool true] :: .string s :: .string (s.extract 4 8) :: pt qb3 :: .tuple #[iN .u64 (n4 s), .bool true] :: iN .u64 (n4 s) :: .bool true :: .bool true :: .bool false :: .bool false :: iN .u64 (n4 s) :: pt q :: iN .i64 m :: iN .u64 m :: .bool false :: .bool false :: List.replicate 2 un).toArray, []⟩) (by kernel_rfl) ?_
  refine wp_seq ?_
  -- region 6
  refine wl_region ?_
  refine wl_val (iN .u64 (n4 s)) (by kernel_rfl) (by kernel_rfl) ?_
  refine wl_val (iN .i64 (n4 s)) (by kernel_rfl) (run_conv .i64 Try.underlying77 Try.underlying3 (by kernel_rfl) (by simp only [top]; omega)) ?_
  refine wl_val (iN .i64 (n4 s)) (by kernel_rfl) (by kernel_rfl) ?_
  refine wl_val (.bool true) (by kernel_rfl) (by kernel_rfl) ?_
  refine wl_nil ?_
  refine then_at (F := ⟨(pt q :: .string s :: un :: un :: iN .i64 (n4 s) :: .bool true :: iN .u64 (n4 s) :: .bool true :: .string s :: iN .i64 s.size :: .bool false :: .bool false :: .string s :: .bool true :: .bool false :: .bool false :: .tuple #[iN .u64 (n4 s), .bool true] :: .string s :: .string (s.extract 4 8) :: pt qb3 :: .tuple #[iN .u64 (n4 s), .bool true] :: iN .u64 (n4 s) :: .bool true :: .bool true :: .bool false :: .bool false :: iN .u64 (n4 s) :: pt q :: iN .i64 m :: iN .u64 m :: .bool false :: .bool false :: iN .u64 (n4 s) :: iN .i64 (n4 s) :: List.replicate 0 un).toArray, []⟩) (by kernel_rfl) ?_
  refine wp_ret ?_
  repeat first | refine then_ret ?_ | refine block_ret ?_
  exact bodyPost_ret (v := .tuple #[iN .i64 (n4 s), .bool true]) (by kernel_rfl) rfl ⟨by rw [firstT, if_pos ⟨h8, hs, hg⟩]; rfl, h19.old.old⟩
theorem first_any {w : World} {q : Nat} {t : Tb} {n m c : Nat} {p : Option Addr} (hq : Blk w q 74 (tcell t n (.slice p m c))) (hm : m ≤ 65536) (s : ByteArray) :
    Calls Try.prog 33 #[pt q, .string s] w fun e w' => e = .returned (onum (firstT m s)) ∧ Below w.heap.size w w' := by
  by_cases h8 : 8 ≤ s.size
  · by_cases hs : s.extract 0 4 = hdS
    · by_cases hg : n4 s < m
      · exact first_d hq hm s h8 hs hg
      · exact first_c hq hm s h8 hs (by omega)
    · exact first_b hq hm s h8 hs
  · exact first_a hq hm s (by omega)
set_option linter.unusedVariables false in
set_option maxRecDepth 100000 in
set_option maxHeartbeats 2000000 in
theorem num_a {w : World} {q : Nat} {t : Tb} {n m c : Nat} {p : Option Addr} (hq : Blk w q 74 (tcell t n (.slice p m c))) (hm : m ≤ 65536) (s : ByteArray) (h8 : s.size = 8) :
    Calls Try.prog 29 #[pt q, .string s] w fun e w' => e = .returned (onum (numT m s)) ∧ Below w.heap.size w w' := by
  have H0 := HA.start w
  go_enter Try.func29, Try.ntmps29
  refine wp_seq ?_
  -- region 0
  refine wl_region ?_
  refine wl_val (iN .i64 0) (by kernel_rfl) (by kernel_rfl) ?_
  refine wl_val (.bool false) (by kernel_rfl) (by kernel_rfl) ?_
  refine wl_nil ?_
  refine then_at (F := ⟨(pt q :: .string s :: un :: un :: iN .i64 0 :: .bool false :: List.replicate 8 un).toArray, []⟩) (by kernel_rfl) ?_
  refine wp_seq ?_
  refine wp_seq ?_
  -- region 1
  refine wl_region ?_
  refine wl_val (.string s) (by kernel_rfl) (by kernel_rfl) ?_
  refine wl_val (iN .i64 s.size) (by kernel_rfl) (run_len (s := s) (by kernel_rfl)) ?_
  refine wl_val (.bool false) (by kernel_rfl) (run_nei (k := .i64) (a := s.size) (b := 8) (by kernel_rfl) (by kernel_rfl) false (decide_eq_false (by omega))) ?_
  refine wl_nil ?_
  refine then_at (F := ⟨(pt q :: .string s :: un :: un :: iN .i64 0 :: .bool false :: .string s :: iN .i64 s.size :: .bool false :: List.replicate 5 un).toArray, []⟩) (by kernel_rfl) ?_
  refine wp_cond_false (by kernel_rfl) ?_
  refine wp_skip ?_
  refine then_at (F := ⟨(pt q :: .string s :: un :: un :: iN .i64 0 :: .bool false :: .string s :: iN .i64 s.size :: .bool false :: List.replicate 5 un).toArray, []⟩) (by kernel_rfl) ?_
  refine wp_seq ?_
  -- region 3
  refine wl_region ?_
  refine wl_val (.pointer (some ⟨q, 0, none⟩)) (by kernel_rfl) (by kernel_rfl) ?_
  refine wl_val (.string s) (by kernel_rfl) (by kernel_rfl) ?_
  refine wl_call (v := onum (firstT m s)) H0 (by kernel_rfl) enter33 #[.pointer (some ⟨q, 0, none⟩), .string s] (by kernel_rfl) (first_any (hq.keep H0.old.old) hm s) ?_
  intro w1 h2
  refine wl_val (iN .i64 ((firstT m s).getD 0)) (by kernel_rfl) (by kernel_rfl) ?_
  refine wl_val (.bool (firstT m s).isSome) (by kernel_rfl) (by kernel_rfl) ?_
  refine wl_val (iN .i64 ((firstT m s).getD 0)) (by kernel_rfl) (by kernel_rfl) ?_
  refine wl_val (.bool (firstT m s).isSome) (by kernel_rfl) (by kernel_rfl) ?_
  refine wl_nil ?_
  refine then_at (F := ⟨(pt q :: .string s :: un :: un :: iN .i64 ((firstT m s).getD 0) :: .bool (firstT m s).isSome :: .string s :: iN .i64 s.size :: .bool false :: pt q :: .string s :: onum (firstT m s) :: iN .i64 ((firstT m s).getD 0) :: .bool (firstT m s).isSome :: List.replicate 0 un).toArray, []⟩) (by kernel_rfl) ?_
  refine wp_ret ?_
  repeat first | refine then_ret ?_ | refine block_ret ?_
  exact bodyPost_ret (v := onum (firstT m s)) (by kernel_rfl) rfl ⟨by rw [numT, if_pos h8], h2.old.old⟩
set_option linter.unusedVariables false in
set_option maxRecDepth 100000 in
set_option maxHeartbeats 2000000 in
theorem num_b {w : World} {q : Nat} {t : Tb} {n m c : Nat} {p : Option Addr} (hq : Blk w q 74 (tcell t n (.slice p m c))) (hm : m ≤ 65536) (s : ByteArray) (h8 : ¬ s.size = 8) :
    Calls Try.prog 29 #[pt q, .string s] w fun e w' => e = .returned (onum (numT m s)) ∧ Below w.heap.size w w' := by
  have H0 := HA.start w
  go_enter Try.func29, Try.ntmps29
  refine wp_seq ?_
  -- region 0
  refine wl_region ?_
  refine wl_val (iN .i64 0) (by kernel_rfl) (by kernel_rfl) ?_
  refine wl_val (.bool false) (by kernel_rfl) (by kernel_rfl) ?_
  refine wl_nil ?_
  refine then_at (F := ⟨(pt q :: .string s :: un :: un :: iN .i64 0 :: .bool false :: List.replicate 8 un).toArray, []⟩) (by kernel_rfl) ?_
  refine wp_seq ?_
  refine wp_seq ?_
  -- region 1
  refine wl_region ?_
  refine wl_val (.string s) (by kernel_rfl) (by kernel_rfl) ?_
  refine wl_val (iN .i64 s.size) (by kernel_rfl) (run_len (s := s) (by kernel_rfl)) ?_
  refine wl_val (.bool true) (by kernel_rfl) (run_nei (k := .i64) (a := s.size) (b := 8) (by kernel_rfl) (by kernel_rfl) true (decide_eq_true (by omega))) ?_
  refine wl_nil ?_
  refine then_at (F := ⟨(pt q :: .string s :: un :: un :: iN .i64 0 :: .bool false :: .string s :: iN .i64 s.size :: .bool true :: List.replicate 5 un).toArray, []⟩) (by kernel_rfl) ?_
  refine wp_cond_true (by kernel_rfl) ?_
  refine wp_seq ?_
  -- region 2
  refine wl_region ?_
  refine wl_val (iN .i64 0) (by kernel_rfl) (by kernel_rfl) ?_
  refine wl_val (.bool false) (by kernel_rfl) (by kernel_rfl) ?_
  refine wl_nil ?_
  refine then_at (F := ⟨(pt q :: .string s :: un :: un :: iN .i64 0 :: .bool false :: .string s :: iN .i64 s.size :: .bool true :: List.replicate 5 un).toArray, []⟩) (by kernel_rfl) ?_
  refine wp_ret ?_
  repeat first | refine then_ret ?_ | refine block_ret ?_
  exact bodyPost_ret (v := .tuple #[iN .i64 0, .bool false]) (by kernel_rfl) rfl ⟨by rw [numT, if_neg h8]; rfl, H0.old.old⟩
theorem num_any {w : World} {q : Nat} {t : Tb} {n m c : Nat} {p : Option Addr} (hq : Blk w q 74 (tcell t n (.slice p m c))) (hm : m ≤ 65536) (s : ByteArray) :
    Calls Try.prog 29 #[pt q, .string s] w fun e w' => e = .returned (onum (numT m s)) ∧ Below w.heap.size w w' := by
  by_cases h8 : s.size = 8
  · exact num_a hq hm s h8
  · exact num_b hq hm s h8
end Go.Proofs.Ytihfeoanognonaa
