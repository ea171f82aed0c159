/-
  first, number: the term whose text bytes are.
-/
import Derived.Test.YtcjjbpbehapjpaaGreatT1
import Derived.Test.YtcjjbpbehapjpaaGreatTW
namespace Go.Proofs.YtcjjbpbehapjpaaGreat
open Go.RowKit

theorem HA.ofBelow {w w' : World} (h : Below w.heap.size w w') : HA (bs w) [] w' := ⟨⟨h, fun _ h => (by cases h), fun _ h => (by cases h), List.nodup_nil⟩, fun _ h => (by cases h), fun _ h => (by cases h), List.nodup_nil⟩
def n4 (s : ByteArray) : Nat := val (s.extract 4 8).data.toList
def firstT (m : Nat) (s : ByteArray) : Option Nat := if 8 ≤ s.size ∧ s.extract 0 4 = hdS ∧ n4 s < m then some (n4 s) else none
def numT (m : Nat) (s : ByteArray) : Option Nat := if s.size = 8 then firstT m s else none
def onum (o : Option Nat) : Value := .tuple #[iN .i64 (o.getD 0), .bool o.isSome]
theorem x48 (s : ByteArray) (h : 8 ≤ s.size) : (s.extract 4 8).size = 4 := by rw [ByteArray.size_extract]; omega
theorem n4_lt (s : ByteArray) (h : 8 ≤ s.size) : n4 s < 4294967296 := by
  have h1 := val_lt (s.extract 4 8).data.toList
  have h2 : (s.extract 4 8).data.toList.length = 4 := x48 s h
  rw [h2] at h1
  exact h1
set_option linter.unusedVariables false in
set_option maxRecDepth 100000 in
set_option maxHeartbeats 2000000 in
theorem lpre_yes (s : ByteArray) (h4 : 4 ≤ s.size) (hs : s.extract 0 4 = hdS) (w : World) :
    Calls Tryz.prog 159 #[.string s, .string hdS] w fun e w' => e = .returned (.bool true) ∧ Below w.heap.size w w' := by
  have H0 := HA.start w
  go_enter Tryz.func159, Tryz.ntmps159
  refine wp_seq (wl_region ?_)
  refine zv (.bool false) ?_
  refine wl_nil (then_at rfl (wp_seq (wl_region ?_)))
  refine zv (.string s) ?_
  refine zu (iN .i64 s.size) (run_len (s := s) (by kernel_rfl)) ?_
  refine zv (.string hdS) ?_
  refine zu (iN .i64 hdS.size) (run_len (s := hdS) (by kernel_rfl)) ?_
  refine zu (.bool true) (run_geq (k := .i64) (a := s.size) (b := hdS.size) (by kernel_rfl) (by kernel_rfl) true (by rw [show hdS.size = 4 from rfl]; exact decide_eq_true (by omega))) ?_
  refine zv (.bool true) ?_
  refine zv (.string s) ?_
  refine zv (.string hdS) ?_
  refine zu (iN .i64 hdS.size) (run_len (s := hdS) (by kernel_rfl)) ?_
  refine zu (.string (s.extract 0 hdS.size)) (run_cut_hi (s := s) (b := hdS.size) (by kernel_rfl) (by kernel_rfl) (by rw [show hdS.size = 4 from rfl]; omega)) ?_
  refine zv (.string hdS) ?_
  refine zu (.bool true) (run_eqs (s := s.extract 0 hdS.size) (t := hdS) (by kernel_rfl) (by kernel_rfl) true (decide_eq_true hs)) ?_
  refine zv (.bool true) ?_
  refine zv (.bool true) ?_
  refine wl_nil (then_at rfl ?_)
  refine wp_ret ?_
  repeat first | refine then_ret ?_ | refine block_ret ?_
  exact bodyPost_ret (v := .bool true) (by kernel_rfl) rfl ⟨rfl, H0.old.old⟩
set_option linter.unusedVariables false in
set_option maxRecDepth 100000 in
set_option maxHeartbeats 2000000 in
theorem pre_yes (s : ByteArray) (h4 : 4 ≤ s.size) (hs : s.extract 0 4 = hdS) (w : World) :
    Calls Tryz.prog 127 #[.string s, .string hdS] w fun e w' => e = .returned (.bool true) ∧ Below w.heap.size w w' := by
  have H0 := HA.start w
  go_enter Tryz.func127, Tryz.ntmps127
  refine wp_seq (wl_region ?_)
  refine zv (.bool false) ?_
  refine wl_nil (then_at rfl (wp_seq (wl_region ?_)))
  refine zv (.string s) ?_
  refine zv (.string hdS) ?_
  refine wl_call (v := .bool true) H0 (by kernel_rfl) enter159 #[.string s, .string hdS] (by kernel_rfl) (lpre_yes s h4 hs w) ?_
  intro w1 h2
  refine zv (.bool true) ?_
  refine wl_nil (then_at rfl ?_)
  refine wp_ret ?_
  repeat first | refine then_ret ?_ | refine block_ret ?_
  exact bodyPost_ret (v := .bool true) (by kernel_rfl) rfl ⟨rfl, h2.old.old⟩
set_option linter.unusedVariables false in
set_option maxRecDepth 100000 in
set_option maxHeartbeats 2000000 in
theorem lpre_no (s : ByteArray) (h4 : 4 ≤ s.size) (hs : s.extract 0 4 ≠ hdS) (w : World) :
    Calls Tryz.prog 159 #[.string s, .string hdS] w fun e w' => e = .returned (.bool false) ∧ Below w.heap.size w w' := by
  have H0 := HA.start w
  go_enter Tryz.func159, Tryz.ntmps159
  refine wp_seq (wl_region ?_)
  refine zv (.bool false) ?_
  refine wl_nil (then_at rfl (wp_seq (wl_region ?_)))
  refine zv (.string s) ?_
  refine zu (iN .i64 s.size) (run_len (s := s) (by kernel_rfl)) ?_
  refine zv (.string hdS) ?_
  refine zu (iN .i64 hdS.size) (run_len (s := hdS) (by kernel_rfl)) ?_
  refine zu (.bool true) (run_geq (k := .i64) (a := s.size) (b := hdS.size) (by kernel_rfl) (by kernel_rfl) true (by rw [show hdS.size = 4 from rfl]; exact decide_eq_true (by omega))) ?_
  refine zv (.bool true) ?_
  refine zv (.string s) ?_
  refine zv (.string hdS) ?_
  refine zu (iN .i64 hdS.size) (run_len (s := hdS) (by kernel_rfl)) ?_
  refine zu (.string (s.extract 0 hdS.size)) (run_cut_hi (s := s) (b := hdS.size) (by kernel_rfl) (by kernel_rfl) (by rw [show hdS.size = 4 from rfl]; omega)) ?_
  refine zv (.string hdS) ?_
  refine zu (.bool false) (run_eqs (s := s.extract 0 hdS.size) (t := hdS) (by kernel_rfl) (by kernel_rfl) false (decide_eq_false hs)) ?_
  refine zv (.bool false) ?_
  refine zv (.bool false) ?_
  refine wl_nil (then_at rfl ?_)
  refine wp_ret ?_
  repeat first | refine then_ret ?_ | refine block_ret ?_
  exact bodyPost_ret (v := .bool false) (by kernel_rfl) rfl ⟨rfl, H0.old.old⟩
set_option linter.unusedVariables false in
set_option maxRecDepth 100000 in
set_option maxHeartbeats 2000000 in
theorem pre_no (s : ByteArray) (h4 : 4 ≤ s.size) (hs : s.extract 0 4 ≠ hdS) (w : World) :
    Calls Tryz.prog 127 #[.string s, .string hdS] w fun e w' => e = .returned (.bool false) ∧ Below w.heap.size w w' := by
  have H0 := HA.start w
  go_enter Tryz.func127, Tryz.ntmps127
  refine wp_seq (wl_region ?_)
  refine zv (.bool false) ?_
  refine wl_nil (then_at rfl (wp_seq (wl_region ?_)))
  refine zv (.string s) ?_
  refine zv (.string hdS) ?_
  refine wl_call (v := .bool false) H0 (by kernel_rfl) enter159 #[.string s, .string hdS] (by kernel_rfl) (lpre_no s h4 hs w) ?_
  intro w1 h2
  refine zv (.bool false) ?_
  refine wl_nil (then_at rfl ?_)
  refine wp_ret ?_
  repeat first | refine then_ret ?_ | refine block_ret ?_
  exact bodyPost_ret (v := .bool false) (by kernel_rfl) rfl ⟨rfl, h2.old.old⟩
set_option linter.unusedVariables false in
set_option maxRecDepth 100000 in
set_option maxHeartbeats 2000000 in
theorem first_a {w : World} {q : Nat} {t : Tb} {n m c : Nat} {p : Option Addr} (hq : Blk w q 154 (tcell t n (.slice p m c))) (hm : m ≤ 65536) (s : ByteArray) (h8 : s.size < 8) :
    Calls Tryz.prog 78 #[pt q, .string s] w fun e w' => e = .returned (onum (firstT m s)) ∧ Below w.heap.size w w' := by
  have H0 := HA.start w
  go_enter Tryz.func78, Tryz.ntmps78
  refine wp_seq (wl_region ?_)
  refine zv (iN .i64 0) ?_
  refine zv (.bool false) ?_
  refine wl_nil (then_at rfl (wp_seq (wp_seq (wl_region ?_))))
  refine zv (.string s) ?_
  refine zu (iN .i64 s.size) (run_len (s := s) (by kernel_rfl)) ?_
  refine zu (.bool true) (run_lss (k := .i64) (a := s.size) (b := 8) (by kernel_rfl) (by kernel_rfl) true (decide_eq_true (by omega))) ?_
  refine zv (.bool true) ?_
  refine wl_skip (by kernel_rfl) ?_
  refine wl_skip (by kernel_rfl) ?_
  refine wl_skip (by kernel_rfl) ?_
  refine zv (.bool true) ?_
  refine wl_nil (then_at rfl ?_)
  refine wp_cond_true (by kernel_rfl) ?_
  refine wp_seq (wl_region ?_)
  refine zv (iN .i64 0) ?_
  refine zv (.bool false) ?_
  refine wl_nil (then_at rfl ?_)
  refine wp_ret ?_
  repeat first | refine then_ret ?_ | refine block_ret ?_
  exact bodyPost_ret (v := .tuple #[iN .i64 0, .bool false]) (by kernel_rfl) rfl ⟨by rw [firstT, if_neg (by omega)]; rfl, H0.old.old⟩
set_option linter.unusedVariables false in
set_option maxRecDepth 100000 in
set_option maxHeartbeats 2000000 in
theorem first_b {w : World} {q : Nat} {t : Tb} {n m c : Nat} {p : Option Addr} (hq : Blk w q 154 (tcell t n (.slice p m c))) (hm : m ≤ 65536) (s : ByteArray) (h8 : 8 ≤ s.size) (hs : s.extract 0 4 ≠ hdS) :
    Calls Tryz.prog 78 #[pt q, .string s] w fun e w' => e = .returned (onum (firstT m s)) ∧ Below w.heap.size w w' := by
  have H0 := HA.start w
  have hv := n4_lt s h8
  go_enter Tryz.func78, Tryz.ntmps78
  refine wp_seq (wl_region ?_)
  refine zv (iN .i64 0) ?_
  refine zv (.bool false) ?_
  refine wl_nil (then_at rfl (wp_seq (wp_seq (wl_region ?_))))
  refine zv (.string s) ?_
  refine zu (iN .i64 s.size) (run_len (s := s) (by kernel_rfl)) ?_
  refine zu (.bool false) (run_lss (k := .i64) (a := s.size) (b := 8) (by kernel_rfl) (by kernel_rfl) false (decide_eq_false (by omega))) ?_
  refine zv (.bool false) ?_
  refine zv (.string s) ?_
  refine wl_call (v := .bool false) H0 (by kernel_rfl) enter127 #[.string s, .string ({ data := #[240, 84, 82, 77] })] (by kernel_rfl) (pre_no s (by omega) hs w) ?_
  intro w1 h2
  refine zv (.bool true) ?_
  refine zv (.bool true) ?_
  refine wl_nil (then_at rfl ?_)
  refine wp_cond_true (by kernel_rfl) ?_
  refine wp_seq (wl_region ?_)
  refine zv (iN .i64 0) ?_
  refine zv (.bool false) ?_
  refine wl_nil (then_at rfl ?_)
  refine wp_ret ?_
  repeat first | refine then_ret ?_ | refine block_ret ?_
  exact bodyPost_ret (v := .tuple #[iN .i64 0, .bool false]) (by kernel_rfl) rfl ⟨by rw [firstT, if_neg (fun h => hs h.2.1)]; rfl, h2.old.old⟩
set_option linter.unusedVariables false in
set_option maxRecDepth 100000 in
set_option maxHeartbeats 2000000 in
theorem first_c {w : World} {q : Nat} {t : Tb} {n m c : Nat} {p : Option Addr} (hq : Blk w q 154 (tcell t n (.slice p m c))) (hm : m ≤ 65536) (s : ByteArray) (h8 : 8 ≤ s.size) (hs : s.extract 0 4 = hdS) (hg : m ≤ n4 s) :
    Calls Tryz.prog 78 #[pt q, .string s] w fun e w' => e = .returned (onum (firstT m s)) ∧ Below w.heap.size w w' := by
  have H0 := HA.start w
  have hv := n4_lt s h8
  go_enter Tryz.func78, Tryz.ntmps78
  refine wp_seq (wl_region ?_)
  refine zv (iN .i64 0) ?_
  refine zv (.bool false) ?_
  refine wl_nil (then_at rfl (wp_seq (wp_seq (wl_region ?_))))
  refine zv (.string s) ?_
  refine zu (iN .i64 s.size) (run_len (s := s) (by kernel_rfl)) ?_
  refine zu (.bool false) (run_lss (k := .i64) (a := s.size) (b := 8) (by kernel_rfl) (by kernel_rfl) false (decide_eq_false (by omega))) ?_
  refine zv (.bool false) ?_
  refine zv (.string s) ?_
  refine wl_call (v := .bool true) H0 (by kernel_rfl) enter127 #[.string s, .string ({ data := #[240, 84, 82, 77] })] (by kernel_rfl) (pre_yes s (by omega) hs w) ?_
  intro w1 h2
  refine zv (.bool false) ?_
  refine zv (.bool false) ?_
  refine wl_nil (then_at rfl ?_)
  refine wp_cond_false (by kernel_rfl) ?_
  refine wp_skip (then_at rfl (wp_seq (wl_region ?_)))
  refine zv (.string s) ?_
  refine zu (.string (s.extract 4 8)) (run_cut2 (s := s) (a := 4) (b := 8) (by kernel_rfl) (by kernel_rfl) (by kernel_rfl) (by decide) (by omega)) ?_
  refine wl_callx (by kernel_rfl) enter64 #[.string (s.extract 4 8)] (by kernel_rfl) (New_4 w1 (s.extract 4 8) (x48 s h8)) ?_
  rintro _ w13 ⟨qb3, rfl, hb4, hl5, hl6, qd7, o8, cap9, hd10, hd11, hr12⟩
  refine ⟨_, rfl, ?_⟩
  have h14 := HA.keep _ _ h2 hb4
  refine wl_callx (by kernel_rfl) enter105 #[.pointer (some ⟨qb3, 0, none⟩), iN .i64 4] (by kernel_rfl) (Number_4 w w13 qb3 qd7 o8 cap9 (s.extract 4 8) (x48 s h8) hr12 hd10 (Nat.le_trans h2.old.old.size hl5) h14.old.old) ?_
  rintro _ w16 ⟨rfl, hw15⟩
  refine ⟨_, rfl, ?_⟩
  have h17 := HA.ofBelow hw15
  refine zv (.tuple #[iN .u64 (n4 s), .bool true]) ?_
  refine zv (iN .u64 (n4 s)) ?_
  refine zv (.bool true) ?_
  refine zv (iN .u64 (n4 s)) ?_
  refine zv (.bool true) ?_
  refine wl_nil (then_at rfl (wp_seq (wp_seq (wl_region ?_))))
  refine zv (.bool true) ?_
  refine zv (.bool false) ?_
  refine zv (.bool false) ?_
  refine zv (iN .u64 (n4 s)) ?_
  refine zv (.pointer (some ⟨q, 0, none⟩)) ?_
  refine wl_call (v := iN .i64 m) h17 (by kernel_rfl) enter128 #[.pointer (some ⟨q, 0, none⟩)] (by kernel_rfl) (Len_any (hq.keep h17.old.old)) ?_
  intro w18 h19
  refine zu (iN .u64 m) (run_conv .u64 Tryz.underlying3 Tryz.underlying117 (by kernel_rfl) (by simp only [top]; omega)) ?_
  refine zu (.bool true) (run_geq (k := .u64) (a := n4 s) (b := m) (by kernel_rfl) (by kernel_rfl) true (decide_eq_true (by omega))) ?_
  refine zv (.bool true) ?_
  refine wl_nil (then_at rfl ?_)
  refine wp_cond_true (by kernel_rfl) ?_
  refine wp_seq (wl_region ?_)
  refine zv (iN .i64 0) ?_
  refine zv (.bool false) ?_
  refine wl_nil (then_at rfl ?_)
  refine wp_ret ?_
  repeat first | refine then_ret ?_ | refine block_ret ?_
  exact bodyPost_ret (v := .tuple #[iN .i64 0, .bool false]) (by kernel_rfl) rfl ⟨by rw [firstT, if_neg (fun h => by omega)]; rfl, h19.old.old⟩
set_option linter.unusedVariables false in
set_option maxRecDepth 100000 in
set_option maxHeartbeats 2000000 in
theorem first_d {w : World} {q : Nat} {t : Tb} {n m c : Nat} {p : Option Addr} (hq : Blk w q 154 (tcell t n (.slice p m c))) (hm : m ≤ 65536) (s : ByteArray) (h8 : 8 ≤ s.size) (hs : s.extract 0 4 = hdS) (hg : n4 s < m) :
    Calls Tryz.prog 78 #[pt q, .string s] w fun e w' => e = .returned (onum (firstT m s)) ∧ Below w.heap.size w w' := by
  have H0 := HA.start w
  have hv := n4_lt s h8
  go_enter Tryz.func78, Tryz.ntmps78
  refine wp_seq (wl_region ?_)
  refine zv (iN .i64 0) ?_
  refine zv (.bool false) ?_
  refine wl_nil (then_at rfl (wp_seq (wp_seq (wl_region ?_))))
  refine zv (.string s) ?_
  refine zu (iN .i64 s.size) (run_len (s := s) (by kernel_rfl)) ?_
  refine zu (.bool false) (run_lss (k := .i64) (a := s.size) (b := 8) (by kernel_rfl) (by kernel_rfl) false (decide_eq_false (by omega))) ?_
  refine zv (.bool false) ?_
  refine zv (.string s) ?_
  refine wl_call (v := .bool true) H0 (by kernel_rfl) enter127 #[.string s, .string ({ data := #[240, 84, 82, 77] })] (by kernel_rfl) (pre_yes s (by omega) hs w) ?_
  intro w1 h2
  refine zv (.bool false) ?_
  refine zv (.bool false) ?_
  refine wl_nil (then_at rfl ?_)
  refine wp_cond_false (by kernel_rfl) ?_
  refine wp_skip (then_at rfl (wp_seq (wl_region ?_)))
  refine zv (.string s) ?_
  refine zu (.string (s.extract 4 8)) (run_cut2 (s := s) (a := 4) (b := 8) (by kernel_rfl) (by kernel_rfl) (by kernel_rfl) (by decide) (by omega)) ?_
  refine wl_callx (by kernel_rfl) enter64 #[.string (s.extract 4 8)] (by kernel_rfl) (New_4 w1 (s.extract 4 8) (x48 s h8)) ?_
  rintro _ w13 ⟨qb3, rfl, hb4, hl5, hl6, qd7, o8, cap9, hd10, hd11, hr12⟩
  refine ⟨_, rfl, ?_⟩
  have h14 := HA.keep _ _ h2 hb4
  refine wl_callx (by kernel_rfl) enter105 #[.pointer (some ⟨qb3, 0, none⟩), iN .i64 4] (by kernel_rfl) (Number_4 w w13 qb3 qd7 o8 cap9 (s.extract 4 8) (x48 s h8) hr12 hd10 (Nat.le_trans h2.old.old.size hl5) h14.old.old) ?_
  rintro _ w16 ⟨rfl, hw15⟩
  refine ⟨_, rfl, ?_⟩
  have h17 := HA.ofBelow hw15
  refine zv (.tuple #[iN .u64 (n4 s), .bool true]) ?_
  refine zv (iN .u64 (n4 s)) ?_
  refine zv (.bool true) ?_
  refine zv (iN .u64 (n4 s)) ?_
  refine zv (.bool true) ?_
  refine wl_nil (then_at rfl (wp_seq (wp_seq (wl_region ?_))))
  refine zv (.bool true) ?_
  refine zv (.bool false) ?_
  refine zv (.bool false) ?_
  refine zv (iN .u64 (n4 s)) ?_
  refine zv (.pointer (some ⟨q, 0, none⟩)) ?_
  refine wl_call (v := iN .i64 m) h17 (by kernel_rfl) enter128 #[.pointer (some ⟨q, 0, none⟩)] (by kernel_rfl) (Len_any (hq.keep h17.old.old)) ?_
  intro w18 h19
  refine zu (iN .u64 m) (run_conv .u64 Tryz.underlying3 Tryz.underlying117 (by kernel_rfl) (by simp only [top]; omega)) ?_
  refine zu (.bool false) (run_geq (k := .u64) (a := n4 s) (b := m) (by kernel_rfl) (by kernel_rfl) false (decide_eq_false (by omega))) ?_
  refine zv (.bool false) ?_
  refine wl_nil (then_at rfl ?_)
  refine wp_cond_false (by kernel_rfl) ?_
  refine wp_skip (then_at rfl (wp_seq (wl_region ?_)))
  refine zv (iN .u64 (n4 s)) ?_
  refine zu (iN .i64 (n4 s)) (run_conv .i64 Tryz.underlying117 Tryz.underlying3 (by kernel_rfl) (by simp only [top]; omega)) ?_
  refine zv (iN .i64 (n4 s)) ?_
  refine zv (.bool true) ?_
  refine wl_nil (then_at rfl ?_)
  refine wp_ret ?_
  repeat first | refine then_ret ?_ | refine block_ret ?_
  exact bodyPost_ret (v := .tuple #[iN .i64 (n4 s), .bool true]) (by kernel_rfl) rfl ⟨by rw [firstT, if_pos ⟨h8, hs, hg⟩]; rfl, h19.old.old⟩
theorem first_any {w : World} {q : Nat} {t : Tb} {n m c : Nat} {p : Option Addr} (hq : Blk w q 154 (tcell t n (.slice p m c))) (hm : m ≤ 65536) (s : ByteArray) :
    Calls Tryz.prog 78 #[pt q, .string s] w fun e w' => e = .returned (onum (firstT m s)) ∧ Below w.heap.size w w' := by
  by_cases h8 : 8 ≤ s.size
  · by_cases hs : s.extract 0 4 = hdS
    · by_cases hg : n4 s < m
      · exact first_d hq hm s h8 hs hg
      · exact first_c hq hm s h8 hs (by omega)
    · exact first_b hq hm s h8 hs
  · exact first_a hq hm s (by omega)
set_option linter.unusedVariables false in
set_option maxRecDepth 100000 in
set_option maxHeartbeats 2000000 in
theorem num_a {w : World} {q : Nat} {t : Tb} {n m c : Nat} {p : Option Addr} (hq : Blk w q 154 (tcell t n (.slice p m c))) (hm : m ≤ 65536) (s : ByteArray) (h8 : s.size = 8) :
    Calls Tryz.prog 322 #[pt q, .string s] w fun e w' => e = .returned (onum (numT m s)) ∧ Below w.heap.size w w' := by
  have H0 := HA.start w
  go_enter Tryz.func322, Tryz.ntmps322
  refine wp_seq (wl_region ?_)
  refine zv (iN .i64 0) ?_
  refine zv (.bool false) ?_
  refine wl_nil (then_at rfl (wp_seq (wp_seq (wl_region ?_))))
  refine zv (.string s) ?_
  refine zu (iN .i64 s.size) (run_len (s := s) (by kernel_rfl)) ?_
  refine zu (.bool false) (run_nei (k := .i64) (a := s.size) (b := 8) (by kernel_rfl) (by kernel_rfl) false (decide_eq_false (by omega))) ?_
  refine wl_nil (then_at rfl ?_)
  refine wp_cond_false (by kernel_rfl) ?_
  refine wp_skip (then_at rfl (wp_seq (wl_region ?_)))
  refine zv (.pointer (some ⟨q, 0, none⟩)) ?_
  refine zv (.string s) ?_
  refine wl_call (v := onum (firstT m s)) H0 (by kernel_rfl) enter78 #[.pointer (some ⟨q, 0, none⟩), .string s] (by kernel_rfl) (first_any (hq.keep H0.old.old) hm s) ?_
  intro w1 h2
  refine zv (iN .i64 ((firstT m s).getD 0)) ?_
  refine zv (.bool (firstT m s).isSome) ?_
  refine zv (iN .i64 ((firstT m s).getD 0)) ?_
  refine zv (.bool (firstT m s).isSome) ?_
  refine wl_nil (then_at rfl ?_)
  refine wp_ret ?_
  repeat first | refine then_ret ?_ | refine block_ret ?_
  exact bodyPost_ret (v := onum (firstT m s)) (by kernel_rfl) rfl ⟨by rw [numT, if_pos h8], h2.old.old⟩
set_option linter.unusedVariables false in
set_option maxRecDepth 100000 in
set_option maxHeartbeats 2000000 in
theorem num_b {w : World} {q : Nat} {t : Tb} {n m c : Nat} {p : Option Addr} (hq : Blk w q 154 (tcell t n (.slice p m c))) (hm : m ≤ 65536) (s : ByteArray) (h8 : ¬ s.size = 8) :
    Calls Tryz.prog 322 #[pt q, .string s] w fun e w' => e = .returned (onum (numT m s)) ∧ Below w.heap.size w w' := by
  have H0 := HA.start w
  go_enter Tryz.func322, Tryz.ntmps322
  refine wp_seq (wl_region ?_)
  refine zv (iN .i64 0) ?_
  refine zv (.bool false) ?_
  refine wl_nil (then_at rfl (wp_seq (wp_seq (wl_region ?_))))
  refine zv (.string s) ?_
  refine zu (iN .i64 s.size) (run_len (s := s) (by kernel_rfl)) ?_
  refine zu (.bool true) (run_nei (k := .i64) (a := s.size) (b := 8) (by kernel_rfl) (by kernel_rfl) true (decide_eq_true (by omega))) ?_
  refine wl_nil (then_at rfl ?_)
  refine wp_cond_true (by kernel_rfl) ?_
  refine wp_seq (wl_region ?_)
  refine zv (iN .i64 0) ?_
  refine zv (.bool false) ?_
  refine wl_nil (then_at rfl ?_)
  refine wp_ret ?_
  repeat first | refine then_ret ?_ | refine block_ret ?_
  exact bodyPost_ret (v := .tuple #[iN .i64 0, .bool false]) (by kernel_rfl) rfl ⟨by rw [numT, if_neg h8]; rfl, H0.old.old⟩
theorem num_any {w : World} {q : Nat} {t : Tb} {n m c : Nat} {p : Option Addr} (hq : Blk w q 154 (tcell t n (.slice p m c))) (hm : m ≤ 65536) (s : ByteArray) :
    Calls Tryz.prog 322 #[pt q, .string s] w fun e w' => e = .returned (onum (numT m s)) ∧ Below w.heap.size w w' := by
  by_cases h8 : s.size = 8
  · exact num_a hq hm s h8
  · exact num_b hq hm s h8
end Go.Proofs.YtcjjbpbehapjpaaGreat
