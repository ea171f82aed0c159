/-
 first, number: the term whose text bytes are.
-/
import Derived.Test.YtihfeoanognonaaGreatT1
import Derived.Test.YtihfeoanognonaaGreatTW
namespace Go.Proofs.YtihfeoanognonaaGreat
set_option linter.unusedVariables false
set_option maxRecDepth 100000
set_option maxHeartbeats 2000000
open Go.RowKit
theorem HA.ofBelow {w w' : World} (h : Below w.heap.size w w') : HA (bs w) [] w' := ⟨⟨h, fun _ h => (by cases h), fun _ h => (by cases h), List.nodup_nil⟩, fun _ h => (by cases h), fun _ h => (by cases h), List.nodup_nil⟩
def n4 (s : ByteArray) : Nat := val (s.extract 4 8).data.toList
def firstT (m : Nat) (s : ByteArray) : Option Nat := if 8 ≤ s.size ∧ s.extract 0 4 = hdS ∧ n4 s < m then some (n4 s) else none
def numT (m : Nat) (s : ByteArray) : Option Nat := if s.size = 8 then firstT m s else none
def onum (o : Option Nat) : Value := .tuple #[iN .i64 (o.getD 0), .bool o.isSome]
theorem x48 (s : ByteArray) (h : 8 ≤ s.size) : (s.extract 4 8).size = 4 := by rw [ByteArray.size_extract]; omega
theorem n4_lt (s : ByteArray) (h : 8 ≤ s.size) : n4 s < 4294967296 := by
 have h1 := val_lt (s.extract 4 8).data.toList
 have h2 : (s.extract 4 8).data.toList.length = 4 := x48 s h
 rw [h2] at h1
 exact h1
theorem lpre_yes (s : ByteArray) (h4 : 4 ≤ s.size) (hs : s.extract 0 4 = hdS) (w : World) :
  Calls Tryz.prog 73 #[.string s, .string hdS] w fun e w' => e = .returned (.bool true) ∧ Below w.heap.size w w' := by
 have H0 := HA.start w
 go_enter Tryz.func73, Tryz.ntmps73
 refine zsr ?_
 refine zwv (.bool false) ?_
 refine znt ?_
 refine zsr ?_
 refine zwv (.string s) ?_
 refine zwu (run_len (s := s)) ?_
 refine zwv (.string hdS) ?_
 refine zwu (run_len (s := hdS)) ?_
 refine zwu (v := .bool true) (run_geq (k := .i64) (a := s.size) (b := hdS.size) true (by rw [show hdS.size = 4 from rfl]; exact decide_eq_true (by omega))) ?_
 refine zwv (.bool true) ?_
 refine zwv (.string s) ?_
 refine zwv (.string hdS) ?_
 refine zwu (run_len (s := hdS)) ?_
 refine zwu (v := .string (s.extract 0 hdS.size)) (run_cut_hi (s := s) (b := hdS.size) (by rw [show hdS.size = 4 from rfl]; omega)) ?_
 refine zwv (.string hdS) ?_
 refine zwu (run_eqs (s := s.extract 0 hdS.size) (t := hdS) true (decide_eq_true hs)) ?_
 refine zwv (.bool true) ?_
 refine zwv (.bool true) ?_
 refine znt ?_
 refine wp_ret ?_
 repeat first | refine then_ret ?_ | refine block_ret ?_
 exact bodyPost_ret (by kernel_rfl) rfl ⟨rfl, H0.old.old⟩
theorem pre_yes (s : ByteArray) (h4 : 4 ≤ s.size) (hs : s.extract 0 4 = hdS) (w : World) :
  Calls Tryz.prog 58 #[.string s, .string hdS] w fun e w' => e = .returned (.bool true) ∧ Below w.heap.size w w' := by
 have H0 := HA.start w
 go_enter Tryz.func58, Tryz.ntmps58
 refine zsr ?_
 refine zwv (.bool false) ?_
 refine znt ?_
 refine zsr ?_
 refine zwv (.string s) ?_
 refine zwv (.string hdS) ?_
 refine zwc H0 enter73 (lpre_yes s h4 hs w) ?_
 intro w1 h2
 refine zwv (.bool true) ?_
 refine znt ?_
 refine wp_ret ?_
 repeat first | refine then_ret ?_ | refine block_ret ?_
 exact bodyPost_ret (by kernel_rfl) rfl ⟨rfl, h2.old.old⟩
theorem lpre_no (s : ByteArray) (h4 : 4 ≤ s.size) (hs : s.extract 0 4 ≠ hdS) (w : World) :
  Calls Tryz.prog 73 #[.string s, .string hdS] w fun e w' => e = .returned (.bool false) ∧ Below w.heap.size w w' := by
 have H0 := HA.start w
 go_enter Tryz.func73, Tryz.ntmps73
 refine zsr ?_
 refine zwv (.bool false) ?_
 refine znt ?_
 refine zsr ?_
 refine zwv (.string s) ?_
 refine zwu (run_len (s := s)) ?_
 refine zwv (.string hdS) ?_
 refine zwu (run_len (s := hdS)) ?_
 refine zwu (v := .bool true) (run_geq (k := .i64) (a := s.size) (b := hdS.size) true (by rw [show hdS.size = 4 from rfl]; exact decide_eq_true (by omega))) ?_
 refine zwv (.bool true) ?_
 refine zwv (.string s) ?_
 refine zwv (.string hdS) ?_
 refine zwu (run_len (s := hdS)) ?_
 refine zwu (v := .string (s.extract 0 hdS.size)) (run_cut_hi (s := s) (b := hdS.size) (by rw [show hdS.size = 4 from rfl]; omega)) ?_
 refine zwv (.string hdS) ?_
 refine zwu (run_eqs (s := s.extract 0 hdS.size) (t := hdS) false (decide_eq_false hs)) ?_
 refine zwv (.bool false) ?_
 refine zwv (.bool false) ?_
 refine znt ?_
 refine wp_ret ?_
 repeat first | refine then_ret ?_ | refine block_ret ?_
 exact bodyPost_ret (by kernel_rfl) rfl ⟨rfl, H0.old.old⟩
theorem pre_no (s : ByteArray) (h4 : 4 ≤ s.size) (hs : s.extract 0 4 ≠ hdS) (w : World) :
  Calls Tryz.prog 58 #[.string s, .string hdS] w fun e w' => e = .returned (.bool false) ∧ Below w.heap.size w w' := by
 have H0 := HA.start w
 go_enter Tryz.func58, Tryz.ntmps58
 refine zsr ?_
 refine zwv (.bool false) ?_
 refine znt ?_
 refine zsr ?_
 refine zwv (.string s) ?_
 refine zwv (.string hdS) ?_
 refine zwc H0 enter73 (lpre_no s h4 hs w) ?_
 intro w1 h2
 refine zwv (.bool false) ?_
 refine znt ?_
 refine wp_ret ?_
 repeat first | refine then_ret ?_ | refine block_ret ?_
 exact bodyPost_ret (by kernel_rfl) rfl ⟨rfl, h2.old.old⟩
theorem first_a {w : World} {q : Nat} {t : Tb} {n m c : Nat} {p : Option Addr} (hq : Blk w q 61 (tcell t n (.slice p m c))) (hm : m ≤ 65536) (s : ByteArray) (h8 : s.size < 8) :
  Calls Tryz.prog 42 #[pt q, .string s] w fun e w' => e = .returned (onum (firstT m s)) ∧ Below w.heap.size w w' := by
 have H0 := HA.start w
 go_enter Tryz.func42, Tryz.ntmps42
 refine zsr ?_
 refine zwv (iN .i64 0) ?_
 refine zwv (.bool false) ?_
 refine znt ?_
 refine wp_seq ?_
 refine zsr ?_
 refine zwv (.string s) ?_
 refine zwu (run_len (s := s)) ?_
 refine zwu (run_lss (k := .i64) (a := s.size) (b := 8) true (decide_eq_true (by omega))) ?_
 refine zwv (.bool true) ?_
 refine wl_skip ?_
 refine wl_skip ?_
 refine wl_skip ?_
 refine zwv (.bool true) ?_
 refine znt ?_
 refine zct ?_
 refine zsr ?_
 refine zwv (iN .i64 0) ?_
 refine zwv (.bool false) ?_
 refine znt ?_
 refine wp_ret ?_
 repeat first | refine then_ret ?_ | refine block_ret ?_
 exact bodyPost_ret (v := .tuple #[iN .i64 0, .bool false]) (by kernel_rfl) rfl ⟨by rw [firstT, if_neg (by omega)]; rfl, H0.old.old⟩
theorem first_b {w : World} {q : Nat} {t : Tb} {n m c : Nat} {p : Option Addr} (hq : Blk w q 61 (tcell t n (.slice p m c))) (hm : m ≤ 65536) (s : ByteArray) (h8 : 8 ≤ s.size) (hs : s.extract 0 4 ≠ hdS) :
  Calls Tryz.prog 42 #[pt q, .string s] w fun e w' => e = .returned (onum (firstT m s)) ∧ Below w.heap.size w w' := by
 have H0 := HA.start w
 have hv := n4_lt s h8
 go_enter Tryz.func42, Tryz.ntmps42
 refine zsr ?_
 refine zwv (iN .i64 0) ?_
 refine zwv (.bool false) ?_
 refine znt ?_
 refine wp_seq ?_
 refine zsr ?_
 refine zwv (.string s) ?_
 refine zwu (run_len (s := s)) ?_
 refine zwu (run_lss (k := .i64) (a := s.size) (b := 8) false (decide_eq_false (by omega))) ?_
 refine zwv (.bool false) ?_
 refine zwv (.string s) ?_
 refine zwc H0 enter58 (pre_no s (by omega) hs w) ?_
 intro w1 h2
 refine zwv (.bool true) ?_
 refine zwv (.bool true) ?_
 refine znt ?_
 refine zct ?_
 refine zsr ?_
 refine zwv (iN .i64 0) ?_
 refine zwv (.bool false) ?_
 refine znt ?_
 refine wp_ret ?_
 repeat first | refine then_ret ?_ | refine block_ret ?_
 exact bodyPost_ret (v := .tuple #[iN .i64 0, .bool false]) (by kernel_rfl) rfl ⟨by rw [firstT, if_neg (fun h => hs h.2.1)]; rfl, h2.old.old⟩
theorem first_c {w : World} {q : Nat} {t : Tb} {n m c : Nat} {p : Option Addr} (hq : Blk w q 61 (tcell t n (.slice p m c))) (hm : m ≤ 65536) (s : ByteArray) (h8 : 8 ≤ s.size) (hs : s.extract 0 4 = hdS) (hg : m ≤ n4 s) :
  Calls Tryz.prog 42 #[pt q, .string s] w fun e w' => e = .returned (onum (firstT m s)) ∧ Below w.heap.size w w' := by
 have H0 := HA.start w
 have hv := n4_lt s h8
 go_enter Tryz.func42, Tryz.ntmps42
 refine zsr ?_
 refine zwv (iN .i64 0) ?_
 refine zwv (.bool false) ?_
 refine znt ?_
 refine wp_seq ?_
 refine zsr ?_
 refine zwv (.string s) ?_
 refine zwu (run_len (s := s)) ?_
 refine zwu (run_lss (k := .i64) (a := s.size) (b := 8) false (decide_eq_false (by omega))) ?_
 refine zwv (.bool false) ?_
 refine zwv (.string s) ?_
 refine zwc H0 enter58 (pre_yes s (by omega) hs w) ?_
 intro w1 h2
 refine zwv (.bool false) ?_
 refine zwv (.bool false) ?_
 refine znt ?_
 refine zcf ?_
 refine wp_skip ?_
 refine then_at rfl ?_
 refine zsr ?_
 refine zwv (.string s) ?_
 refine zwu (v := .string (s.extract 4 8)) (run_cut2 (s := s) (a := 4) (b := 8) (by decide) (by omega)) ?_
 refine wl_callx enter59 #[.string (s.extract 4 8)] (New_4 w1 (s.extract 4 8) (x48 s h8)) ?_
 rintro _ w13 ⟨qb3, rfl, hb4, hl5, hl6, qd7, o8, cap9, hd10, hd11, hr12⟩
 refine ⟨_, rfl, ?_⟩
 have h14 := HA.keep _ _ h2 hb4
 refine wl_callx enter60 #[.pointer (some ⟨qb3, 0, none⟩), iN .i64 4] (Number_4 w w13 qb3 qd7 o8 cap9 (s.extract 4 8) (x48 s h8) hr12 hd10 (Nat.le_trans h2.old.old.size hl5) h14.old.old) ?_
 rintro _ w16 ⟨rfl, hw15⟩
 refine ⟨_, rfl, ?_⟩
 have h17 := HA.ofBelow hw15
 refine zwv (.tuple #[iN .u64 (n4 s), .bool true]) ?_
 refine zwv (iN .u64 (n4 s)) ?_
 refine zwv (.bool true) ?_
 refine zwv (iN .u64 (n4 s)) ?_
 refine zwv (.bool true) ?_
 refine znt ?_
 refine wp_seq ?_
 refine zsr ?_
 refine zwv (.bool true) ?_
 refine zwv (.bool false) ?_
 refine zwv (.bool false) ?_
 refine zwv (iN .u64 (n4 s)) ?_
 refine zwv (.pointer (some ⟨q, 0, none⟩)) ?_
 refine zwc h17 enter16 (Len_any (hq.keep h17.old.old)) ?_
 intro w18 h19
 refine zwu (v := iN .u64 m) (run_conv .u64 Tryz.underlying3 Tryz.underlying105 (by simp only [top]; omega)) ?_
 refine zwu (run_geq (k := .u64) (a := n4 s) (b := m) true (decide_eq_true (by omega))) ?_
 refine zwv (.bool true) ?_
 refine znt ?_
 refine zct ?_
 refine zsr ?_
 refine zwv (iN .i64 0) ?_
 refine zwv (.bool false) ?_
 refine znt ?_
 refine wp_ret ?_
 repeat first | refine then_ret ?_ | refine block_ret ?_
 exact bodyPost_ret (v := .tuple #[iN .i64 0, .bool false]) (by kernel_rfl) rfl ⟨by rw [firstT, if_neg (fun h => by omega)]; rfl, h19.old.old⟩
theorem first_d {w : World} {q : Nat} {t : Tb} {n m c : Nat} {p : Option Addr} (hq : Blk w q 61 (tcell t n (.slice p m c))) (hm : m ≤ 65536) (s : ByteArray) (h8 : 8 ≤ s.size) (hs : s.extract 0 4 = hdS) (hg : n4 s < m) :
  Calls Tryz.prog 42 #[pt q, .string s] w fun e w' => e = .returned (onum (firstT m s)) ∧ Below w.heap.size w w' := by
 have H0 := HA.start w
 have hv := n4_lt s h8
 go_enter Tryz.func42, Tryz.ntmps42
 refine zsr ?_
 refine zwv (iN .i64 0) ?_
 refine zwv (.bool false) ?_
 refine znt ?_
 refine wp_seq ?_
 refine zsr ?_
 refine zwv (.string s) ?_
 refine zwu (run_len (s := s)) ?_
 refine zwu (run_lss (k := .i64) (a := s.size) (b := 8) false (decide_eq_false (by omega))) ?_
 refine zwv (.bool false) ?_
 refine zwv (.string s) ?_
 refine zwc H0 enter58 (pre_yes s (by omega) hs w) ?_
 intro w1 h2
 refine zwv (.bool false) ?_
 refine zwv (.bool false) ?_
 refine znt ?_
 refine zcf ?_
 refine wp_skip ?_
 refine then_at rfl ?_
 refine zsr ?_
 refine zwv (.string s) ?_
 refine zwu (v := .string (s.extract 4 8)) (run_cut2 (s := s) (a := 4) (b := 8) (by decide) (by omega)) ?_
 refine wl_callx enter59 #[.string (s.extract 4 8)] (New_4 w1 (s.extract 4 8) (x48 s h8)) ?_
 rintro _ w13 ⟨qb3, rfl, hb4, hl5, hl6, qd7, o8, cap9, hd10, hd11, hr12⟩
 refine ⟨_, rfl, ?_⟩
 have h14 := HA.keep _ _ h2 hb4
 refine wl_callx enter60 #[.pointer (some ⟨qb3, 0, none⟩), iN .i64 4] (Number_4 w w13 qb3 qd7 o8 cap9 (s.extract 4 8) (x48 s h8) hr12 hd10 (Nat.le_trans h2.old.old.size hl5) h14.old.old) ?_
 rintro _ w16 ⟨rfl, hw15⟩
 refine ⟨_, rfl, ?_⟩
 have h17 := HA.ofBelow hw15
 refine zwv (.tuple #[iN .u64 (n4 s), .bool true]) ?_
 refine zwv (iN .u64 (n4 s)) ?_
 refine zwv (.bool true) ?_
 refine zwv (iN .u64 (n4 s)) ?_
 refine zwv (.bool true) ?_
 refine znt ?_
 refine wp_seq ?_
 refine zsr ?_
 refine zwv (.bool true) ?_
 refine zwv (.bool false) ?_
 refine zwv (.bool false) ?_
 refine zwv (iN .u64 (n4 s)) ?_
 refine zwv (.pointer (some ⟨q, 0, none⟩)) ?_
 refine zwc h17 enter16 (Len_any (hq.keep h17.old.old)) ?_
 intro w18 h19
 refine zwu (v := iN .u64 m) (run_conv .u64 Tryz.underlying3 Tryz.underlying105 (by simp only [top]; omega)) ?_
 refine zwu (run_geq (k := .u64) (a := n4 s) (b := m) false (decide_eq_false (by omega))) ?_
 refine zwv (.bool false) ?_
 refine znt ?_
 refine zcf ?_
 refine wp_skip ?_
 refine then_at rfl ?_
 refine zsr ?_
 refine zwv (iN .u64 (n4 s)) ?_
 refine zwu (v := iN .i64 (n4 s)) (run_conv .i64 Tryz.underlying105 Tryz.underlying3 (by simp only [top]; omega)) ?_
 refine zwv (iN .i64 (n4 s)) ?_
 refine zwv (.bool true) ?_
 refine znt ?_
 refine wp_ret ?_
 repeat first | refine then_ret ?_ | refine block_ret ?_
 exact bodyPost_ret (v := .tuple #[iN .i64 (n4 s), .bool true]) (by kernel_rfl) rfl ⟨by rw [firstT, if_pos ⟨h8, hs, hg⟩]; rfl, h19.old.old⟩
theorem first_any {w : World} {q : Nat} {t : Tb} {n m c : Nat} {p : Option Addr} (hq : Blk w q 61 (tcell t n (.slice p m c))) (hm : m ≤ 65536) (s : ByteArray) :
  Calls Tryz.prog 42 #[pt q, .string s] w fun e w' => e = .returned (onum (firstT m s)) ∧ Below w.heap.size w w' := by
 by_cases h8 : 8 ≤ s.size
 ·by_cases hs : s.extract 0 4 = hdS
  ·by_cases hg : n4 s < m
   ·exact first_d hq hm s h8 hs hg
   ·exact first_c hq hm s h8 hs (by omega)
  ·exact first_b hq hm s h8 hs
 ·exact first_a hq hm s (by omega)
theorem num_a {w : World} {q : Nat} {t : Tb} {n m c : Nat} {p : Option Addr} (hq : Blk w q 61 (tcell t n (.slice p m c))) (hm : m ≤ 65536) (s : ByteArray) (h8 : s.size = 8) :
  Calls Tryz.prog 51 #[pt q, .string s] w fun e w' => e = .returned (onum (numT m s)) ∧ Below w.heap.size w w' := by
 have H0 := HA.start w
 go_enter Tryz.func51, Tryz.ntmps51
 refine zsr ?_
 refine zwv (iN .i64 0) ?_
 refine zwv (.bool false) ?_
 refine znt ?_
 refine wp_seq ?_
 refine zsr ?_
 refine zwv (.string s) ?_
 refine zwu (run_len (s := s)) ?_
 refine zwu (run_nei (k := .i64) (a := s.size) (b := 8) false (decide_eq_false (by omega))) ?_
 refine znt ?_
 refine zcf ?_
 refine wp_skip ?_
 refine then_at rfl ?_
 refine zsr ?_
 refine zwv (.pointer (some ⟨q, 0, none⟩)) ?_
 refine zwv (.string s) ?_
 refine zwc H0 enter42 (first_any (hq.keep H0.old.old) hm s) ?_
 intro w1 h2
 refine zwv (iN .i64 ((firstT m s).getD 0)) ?_
 refine zwv (.bool (firstT m s).isSome) ?_
 refine zwv (iN .i64 ((firstT m s).getD 0)) ?_
 refine zwv (.bool (firstT m s).isSome) ?_
 refine znt ?_
 refine wp_ret ?_
 repeat first | refine then_ret ?_ | refine block_ret ?_
 exact bodyPost_ret (v := onum (firstT m s)) (by kernel_rfl) rfl ⟨by rw [numT, if_pos h8], h2.old.old⟩
theorem num_b {w : World} {q : Nat} {t : Tb} {n m c : Nat} {p : Option Addr} (hq : Blk w q 61 (tcell t n (.slice p m c))) (hm : m ≤ 65536) (s : ByteArray) (h8 : ¬ s.size = 8) :
  Calls Tryz.prog 51 #[pt q, .string s] w fun e w' => e = .returned (onum (numT m s)) ∧ Below w.heap.size w w' := by
 have H0 := HA.start w
 go_enter Tryz.func51, Tryz.ntmps51
 refine zsr ?_
 refine zwv (iN .i64 0) ?_
 refine zwv (.bool false) ?_
 refine znt ?_
 refine wp_seq ?_
 refine zsr ?_
 refine zwv (.string s) ?_
 refine zwu (run_len (s := s)) ?_
 refine zwu (run_nei (k := .i64) (a := s.size) (b := 8) true (decide_eq_true (by omega))) ?_
 refine znt ?_
 refine zct ?_
 refine zsr ?_
 refine zwv (iN .i64 0) ?_
 refine zwv (.bool false) ?_
 refine znt ?_
 refine wp_ret ?_
 repeat first | refine then_ret ?_ | refine block_ret ?_
 exact bodyPost_ret (v := .tuple #[iN .i64 0, .bool false]) (by kernel_rfl) rfl ⟨by rw [numT, if_neg h8]; rfl, H0.old.old⟩
theorem num_any {w : World} {q : Nat} {t : Tb} {n m c : Nat} {p : Option Addr} (hq : Blk w q 61 (tcell t n (.slice p m c))) (hm : m ≤ 65536) (s : ByteArray) :
  Calls Tryz.prog 51 #[pt q, .string s] w fun e w' => e = .returned (onum (numT m s)) ∧ Below w.heap.size w w' := by
 by_cases h8 : s.size = 8
 ·exact num_a hq hm s h8
 ·exact num_b hq hm s h8
end Go.Proofs.YtihfeoanognonaaGreat
