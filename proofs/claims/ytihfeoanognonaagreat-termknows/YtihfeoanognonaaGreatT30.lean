/-
 The reference's terms: Same.
-/
import Derived.Test.YtihfeoanognonaaGreatT20
namespace Go.Proofs.YtihfeoanognonaaGreat
set_option linter.unusedVariables false
set_option maxRecDepth 100000
set_option maxHeartbeats 2000000
open Go.RowKit
def tmv (k n : Nat) (s : ByteArray) (o : Option Addr) (m c : Nat) : Value := .agg #[iN .i64 k, iN .i64 n, .string s, .slice o m c]
def tmc (k n : Nat) (s : ByteArray) (o : Option Addr) (m c : Nat) : Array Value := #[iN .i64 k, iN .i64 n, .string s, .slice o m c]
theorem same_k {w : World} {k n k2 n2 : Nat} {s s2 : ByteArray} {o o2 : Option Addr} {c c2 : Nat} {ps ps2 : List Nat} (hk : k ≠ k2) :
  Calls Tryz.prog 63 #[tmv k n s o ps.length c, tmv k2 n2 s2 o2 ps2.length c2] w fun e w' => e = .returned (.bool false) ∧ Below w.heap.size w w' := by
 have H0 := HA.start w
 go_enter Tryz.func63, Tryz.ntmps63
 refine zsr ?_
 refine wl_make (c := #[iN .i64 k, iN .i64 n, .string s, .slice o ps.length c]) H0 74 ?_
 intro q1 w2 (h3 : HA (bs w) [(q1, 74, #[iN .i64 k, iN .i64 n, .string s, .slice o ps.length c])] w2)
 refine wl_make (c := #[iN .i64 k2, iN .i64 n2, .string s2, .slice o2 ps2.length c2]) h3 74 ?_
 intro q4 w5 (h6 : HA (bs w) [(q4, 74, #[iN .i64 k2, iN .i64 n2, .string s2, .slice o2 ps2.length c2]), (q1, 74, #[iN .i64 k, iN .i64 n, .string s, .slice o ps.length c])] w5)
 refine zwv (.bool false) ?_
 refine znt ?_
 refine wp_seq ?_
 refine zsr ?_
 refine zwv (.pointer (some ⟨q1, 0, none⟩)) ?_
 refine zwu (v := iN .i64 k) (run_load1 Tryz.isAgg3 (((h6.get 1 rfl).cell 0).trans rfl)) ?_
 refine zwv (.pointer (some ⟨q4, 0, none⟩)) ?_
 refine zwu (v := iN .i64 k2) (run_load1 Tryz.isAgg3 (((h6.get 0 rfl).cell 0).trans rfl)) ?_
 refine zwu (run_nei (k := .i64) (a := k) (b := k2) true (decide_eq_true hk)) ?_
 refine zwv (.bool true) ?_
 refine wl_skip ?_
 refine wl_skip ?_
 refine wl_skip ?_
 refine wl_skip ?_
 refine wl_skip ?_
 refine zwv (.bool true) ?_
 refine zwv (.bool true) ?_
 refine wl_skip ?_
 refine wl_skip ?_
 refine wl_skip ?_
 refine wl_skip ?_
 refine wl_skip ?_
 refine zwv (.bool true) ?_
 refine zwv (.bool true) ?_
 refine wl_skip ?_
 refine wl_skip ?_
 refine wl_skip ?_
 refine wl_skip ?_
 refine wl_skip ?_
 refine wl_skip ?_
 refine wl_skip ?_
 refine zwv (.bool true) ?_
 refine znt ?_
 refine zct ?_
 refine zsr ?_
 refine zwv (.bool false) ?_
 refine znt ?_
 refine wp_ret ?_
 repeat first | refine then_ret ?_ | refine block_ret ?_
 exact bodyPost_ret (by kernel_rfl) rfl ⟨rfl, h6.old.old⟩
theorem same_n {w : World} {k n k2 n2 : Nat} {s s2 : ByteArray} {o o2 : Option Addr} {c c2 : Nat} {ps ps2 : List Nat} (hk : k = k2) (hn : n ≠ n2) :
  Calls Tryz.prog 63 #[tmv k n s o ps.length c, tmv k2 n2 s2 o2 ps2.length c2] w fun e w' => e = .returned (.bool false) ∧ Below w.heap.size w w' := by
 have H0 := HA.start w
 go_enter Tryz.func63, Tryz.ntmps63
 refine zsr ?_
 refine wl_make (c := #[iN .i64 k, iN .i64 n, .string s, .slice o ps.length c]) H0 74 ?_
 intro q1 w2 (h3 : HA (bs w) [(q1, 74, #[iN .i64 k, iN .i64 n, .string s, .slice o ps.length c])] w2)
 refine wl_make (c := #[iN .i64 k2, iN .i64 n2, .string s2, .slice o2 ps2.length c2]) h3 74 ?_
 intro q4 w5 (h6 : HA (bs w) [(q4, 74, #[iN .i64 k2, iN .i64 n2, .string s2, .slice o2 ps2.length c2]), (q1, 74, #[iN .i64 k, iN .i64 n, .string s, .slice o ps.length c])] w5)
 refine zwv (.bool false) ?_
 refine znt ?_
 refine wp_seq ?_
 refine zsr ?_
 refine zwv (.pointer (some ⟨q1, 0, none⟩)) ?_
 refine zwu (v := iN .i64 k) (run_load1 Tryz.isAgg3 (((h6.get 1 rfl).cell 0).trans rfl)) ?_
 refine zwv (.pointer (some ⟨q4, 0, none⟩)) ?_
 refine zwu (v := iN .i64 k2) (run_load1 Tryz.isAgg3 (((h6.get 0 rfl).cell 0).trans rfl)) ?_
 refine zwu (run_nei (k := .i64) (a := k) (b := k2) false (decide_eq_false (fun x => x hk))) ?_
 refine zwv (.bool false) ?_
 refine zwv (.pointer (some ⟨q1, 1, none⟩)) ?_
 refine zwu (v := iN .i64 n) (run_load1 Tryz.isAgg3 (((h6.get 1 rfl).cell 1).trans rfl)) ?_
 refine zwv (.pointer (some ⟨q4, 1, none⟩)) ?_
 refine zwu (v := iN .i64 n2) (run_load1 Tryz.isAgg3 (((h6.get 0 rfl).cell 1).trans rfl)) ?_
 refine zwu (run_nei (k := .i64) (a := n) (b := n2) true (decide_eq_true hn)) ?_
 refine zwv (.bool true) ?_
 refine zwv (.bool true) ?_
 refine wl_skip ?_
 refine wl_skip ?_
 refine wl_skip ?_
 refine wl_skip ?_
 refine wl_skip ?_
 refine zwv (.bool true) ?_
 refine zwv (.bool true) ?_
 refine wl_skip ?_
 refine wl_skip ?_
 refine wl_skip ?_
 refine wl_skip ?_
 refine wl_skip ?_
 refine wl_skip ?_
 refine wl_skip ?_
 refine zwv (.bool true) ?_
 refine znt ?_
 refine zct ?_
 refine zsr ?_
 refine zwv (.bool false) ?_
 refine znt ?_
 refine wp_ret ?_
 repeat first | refine then_ret ?_ | refine block_ret ?_
 exact bodyPost_ret (by kernel_rfl) rfl ⟨rfl, h6.old.old⟩
theorem same_s {w : World} {k n k2 n2 : Nat} {s s2 : ByteArray} {o o2 : Option Addr} {c c2 : Nat} {ps ps2 : List Nat} (hk : k = k2) (hn : n = n2) (hs : s ≠ s2) :
  Calls Tryz.prog 63 #[tmv k n s o ps.length c, tmv k2 n2 s2 o2 ps2.length c2] w fun e w' => e = .returned (.bool false) ∧ Below w.heap.size w w' := by
 have H0 := HA.start w
 go_enter Tryz.func63, Tryz.ntmps63
 refine zsr ?_
 refine wl_make (c := #[iN .i64 k, iN .i64 n, .string s, .slice o ps.length c]) H0 74 ?_
 intro q1 w2 (h3 : HA (bs w) [(q1, 74, #[iN .i64 k, iN .i64 n, .string s, .slice o ps.length c])] w2)
 refine wl_make (c := #[iN .i64 k2, iN .i64 n2, .string s2, .slice o2 ps2.length c2]) h3 74 ?_
 intro q4 w5 (h6 : HA (bs w) [(q4, 74, #[iN .i64 k2, iN .i64 n2, .string s2, .slice o2 ps2.length c2]), (q1, 74, #[iN .i64 k, iN .i64 n, .string s, .slice o ps.length c])] w5)
 refine zwv (.bool false) ?_
 refine znt ?_
 refine wp_seq ?_
 refine zsr ?_
 refine zwv (.pointer (some ⟨q1, 0, none⟩)) ?_
 refine zwu (v := iN .i64 k) (run_load1 Tryz.isAgg3 (((h6.get 1 rfl).cell 0).trans rfl)) ?_
 refine zwv (.pointer (some ⟨q4, 0, none⟩)) ?_
 refine zwu (v := iN .i64 k2) (run_load1 Tryz.isAgg3 (((h6.get 0 rfl).cell 0).trans rfl)) ?_
 refine zwu (run_nei (k := .i64) (a := k) (b := k2) false (decide_eq_false (fun x => x hk))) ?_
 refine zwv (.bool false) ?_
 refine zwv (.pointer (some ⟨q1, 1, none⟩)) ?_
 refine zwu (v := iN .i64 n) (run_load1 Tryz.isAgg3 (((h6.get 1 rfl).cell 1).trans rfl)) ?_
 refine zwv (.pointer (some ⟨q4, 1, none⟩)) ?_
 refine zwu (v := iN .i64 n2) (run_load1 Tryz.isAgg3 (((h6.get 0 rfl).cell 1).trans rfl)) ?_
 refine zwu (run_nei (k := .i64) (a := n) (b := n2) false (decide_eq_false (fun x => x hn))) ?_
 refine zwv (.bool false) ?_
 refine zwv (.bool false) ?_
 refine zwv (.pointer (some ⟨q1, 2, none⟩)) ?_
 refine zwu (v := .string s) (run_load1 Tryz.isAgg9 (((h6.get 1 rfl).cell 2).trans rfl)) ?_
 refine zwv (.pointer (some ⟨q4, 2, none⟩)) ?_
 refine zwu (v := .string s2) (run_load1 Tryz.isAgg9 (((h6.get 0 rfl).cell 2).trans rfl)) ?_
 refine zwu (run_nes (s := s) (t := s2) true (decide_eq_false hs)) ?_
 refine zwv (.bool true) ?_
 refine zwv (.bool true) ?_
 refine wl_skip ?_
 refine wl_skip ?_
 refine wl_skip ?_
 refine wl_skip ?_
 refine wl_skip ?_
 refine wl_skip ?_
 refine wl_skip ?_
 refine zwv (.bool true) ?_
 refine znt ?_
 refine zct ?_
 refine zsr ?_
 refine zwv (.bool false) ?_
 refine znt ?_
 refine wp_ret ?_
 repeat first | refine then_ret ?_ | refine block_ret ?_
 exact bodyPost_ret (by kernel_rfl) rfl ⟨rfl, h6.old.old⟩
theorem same_m {w : World} {k n k2 n2 : Nat} {s s2 : ByteArray} {o o2 : Option Addr} {c c2 : Nat} {ps ps2 : List Nat} (hk : k = k2) (hn : n = n2) (hs : s = s2) (hm : ps.length ≠ ps2.length) :
  Calls Tryz.prog 63 #[tmv k n s o ps.length c, tmv k2 n2 s2 o2 ps2.length c2] w fun e w' => e = .returned (.bool false) ∧ Below w.heap.size w w' := by
 have H0 := HA.start w
 go_enter Tryz.func63, Tryz.ntmps63
 refine zsr ?_
 refine wl_make (c := #[iN .i64 k, iN .i64 n, .string s, .slice o ps.length c]) H0 74 ?_
 intro q1 w2 (h3 : HA (bs w) [(q1, 74, #[iN .i64 k, iN .i64 n, .string s, .slice o ps.length c])] w2)
 refine wl_make (c := #[iN .i64 k2, iN .i64 n2, .string s2, .slice o2 ps2.length c2]) h3 74 ?_
 intro q4 w5 (h6 : HA (bs w) [(q4, 74, #[iN .i64 k2, iN .i64 n2, .string s2, .slice o2 ps2.length c2]), (q1, 74, #[iN .i64 k, iN .i64 n, .string s, .slice o ps.length c])] w5)
 refine zwv (.bool false) ?_
 refine znt ?_
 refine wp_seq ?_
 refine zsr ?_
 refine zwv (.pointer (some ⟨q1, 0, none⟩)) ?_
 refine zwu (v := iN .i64 k) (run_load1 Tryz.isAgg3 (((h6.get 1 rfl).cell 0).trans rfl)) ?_
 refine zwv (.pointer (some ⟨q4, 0, none⟩)) ?_
 refine zwu (v := iN .i64 k2) (run_load1 Tryz.isAgg3 (((h6.get 0 rfl).cell 0).trans rfl)) ?_
 refine zwu (run_nei (k := .i64) (a := k) (b := k2) false (decide_eq_false (fun x => x hk))) ?_
 refine zwv (.bool false) ?_
 refine zwv (.pointer (some ⟨q1, 1, none⟩)) ?_
 refine zwu (v := iN .i64 n) (run_load1 Tryz.isAgg3 (((h6.get 1 rfl).cell 1).trans rfl)) ?_
 refine zwv (.pointer (some ⟨q4, 1, none⟩)) ?_
 refine zwu (v := iN .i64 n2) (run_load1 Tryz.isAgg3 (((h6.get 0 rfl).cell 1).trans rfl)) ?_
 refine zwu (run_nei (k := .i64) (a := n) (b := n2) false (decide_eq_false (fun x => x hn))) ?_
 refine zwv (.bool false) ?_
 refine zwv (.bool false) ?_
 refine zwv (.pointer (some ⟨q1, 2, none⟩)) ?_
 refine zwu (v := .string s) (run_load1 Tryz.isAgg9 (((h6.get 1 rfl).cell 2).trans rfl)) ?_
 refine zwv (.pointer (some ⟨q4, 2, none⟩)) ?_
 refine zwu (v := .string s2) (run_load1 Tryz.isAgg9 (((h6.get 0 rfl).cell 2).trans rfl)) ?_
 refine zwu (run_nes (s := s) (t := s2) false (decide_eq_true hs)) ?_
 refine zwv (.bool false) ?_
 refine zwv (.bool false) ?_
 refine zwv (.pointer (some ⟨q1, 3, none⟩)) ?_
 refine zwu (v := .slice o ps.length c) (run_load1 Tryz.isAgg63 (((h6.get 1 rfl).cell 3).trans rfl)) ?_
 refine zwv (iN .i64 ps.length) ?_
 refine zwv (.pointer (some ⟨q4, 3, none⟩)) ?_
 refine zwu (v := .slice o2 ps2.length c2) (run_load1 Tryz.isAgg63 (((h6.get 0 rfl).cell 3).trans rfl)) ?_
 refine zwv (iN .i64 ps2.length) ?_
 refine zwu (run_nei (k := .i64) (a := ps.length) (b := ps2.length) true (decide_eq_true hm)) ?_
 refine zwv (.bool true) ?_
 refine znt ?_
 refine zct ?_
 refine zsr ?_
 refine zwv (.bool false) ?_
 refine znt ?_
 refine wp_ret ?_
 repeat first | refine then_ret ?_ | refine block_ret ?_
 exact bodyPost_ret (by kernel_rfl) rfl ⟨rfl, h6.old.old⟩
theorem same_0 {w : World} {k n k2 n2 : Nat} {s s2 : ByteArray} {o o2 : Option Addr} {c c2 : Nat} (hk : k = k2) (hn : n = n2) (hs : s = s2) :
  Calls Tryz.prog 63 #[tmv k n s o 0 c, tmv k2 n2 s2 o2 0 c2] w fun e w' => e = .returned (.bool true) ∧ Below w.heap.size w w' := by
 have H0 := HA.start w
 go_enter Tryz.func63, Tryz.ntmps63
 refine zsr ?_
 refine wl_make (c := #[iN .i64 k, iN .i64 n, .string s, .slice o 0 c]) H0 74 ?_
 intro q1 w2 (h3 : HA (bs w) [(q1, 74, #[iN .i64 k, iN .i64 n, .string s, .slice o 0 c])] w2)
 refine wl_make (c := #[iN .i64 k2, iN .i64 n2, .string s2, .slice o2 0 c2]) h3 74 ?_
 intro q4 w5 (h6 : HA (bs w) [(q4, 74, #[iN .i64 k2, iN .i64 n2, .string s2, .slice o2 0 c2]), (q1, 74, #[iN .i64 k, iN .i64 n, .string s, .slice o 0 c])] w5)
 refine zwv (.bool false) ?_
 refine znt ?_
 refine wp_seq ?_
 refine zsr ?_
 refine zwv (.pointer (some ⟨q1, 0, none⟩)) ?_
 refine zwu (v := iN .i64 k) (run_load1 Tryz.isAgg3 (((h6.get 1 rfl).cell 0).trans rfl)) ?_
 refine zwv (.pointer (some ⟨q4, 0, none⟩)) ?_
 refine zwu (v := iN .i64 k2) (run_load1 Tryz.isAgg3 (((h6.get 0 rfl).cell 0).trans rfl)) ?_
 refine zwu (run_nei (k := .i64) (a := k) (b := k2) false (decide_eq_false (fun x => x hk))) ?_
 refine zwv (.bool false) ?_
 refine zwv (.pointer (some ⟨q1, 1, none⟩)) ?_
 refine zwu (v := iN .i64 n) (run_load1 Tryz.isAgg3 (((h6.get 1 rfl).cell 1).trans rfl)) ?_
 refine zwv (.pointer (some ⟨q4, 1, none⟩)) ?_
 refine zwu (v := iN .i64 n2) (run_load1 Tryz.isAgg3 (((h6.get 0 rfl).cell 1).trans rfl)) ?_
 refine zwu (run_nei (k := .i64) (a := n) (b := n2) false (decide_eq_false (fun x => x hn))) ?_
 refine zwv (.bool false) ?_
 refine zwv (.bool false) ?_
 refine zwv (.pointer (some ⟨q1, 2, none⟩)) ?_
 refine zwu (v := .string s) (run_load1 Tryz.isAgg9 (((h6.get 1 rfl).cell 2).trans rfl)) ?_
 refine zwv (.pointer (some ⟨q4, 2, none⟩)) ?_
 refine zwu (v := .string s2) (run_load1 Tryz.isAgg9 (((h6.get 0 rfl).cell 2).trans rfl)) ?_
 refine zwu (run_nes (s := s) (t := s2) false (decide_eq_true hs)) ?_
 refine zwv (.bool false) ?_
 refine zwv (.bool false) ?_
 refine zwv (.pointer (some ⟨q1, 3, none⟩)) ?_
 refine zwu (v := .slice o 0 c) (run_load1 Tryz.isAgg63 (((h6.get 1 rfl).cell 3).trans rfl)) ?_
 refine zwv (iN .i64 0) ?_
 refine zwv (.pointer (some ⟨q4, 3, none⟩)) ?_
 refine zwu (v := .slice o2 0 c2) (run_load1 Tryz.isAgg63 (((h6.get 0 rfl).cell 3).trans rfl)) ?_
 refine zwv (iN .i64 0) ?_
 refine zwu (run_nei (k := .i64) (a := 0) (b := 0) false (by decide)) ?_
 refine zwv (.bool false) ?_
 refine znt ?_
 refine zcf ?_
 refine wp_skip ?_
 refine then_at rfl ?_
 refine wp_seq ?_
 refine zsr ?_
 refine zwv (iN .i64 0) ?_
 refine znt ?_
 refine wp_block ?_
 refine wp_loop_rounds 2 ?_
 try rw [rounds_succ]
 refine wp_seq ?_
 refine zsr ?_
 refine zwv (iN .i64 0) ?_
 refine zwv (.pointer (some ⟨q1, 3, none⟩)) ?_
 refine zwu (v := .slice o 0 c) (run_load1 Tryz.isAgg63 (((h6.get 1 rfl).cell 3).trans rfl)) ?_
 refine zwv (iN .i64 0) ?_
 refine zwu (run_lss (k := .i64) (a := 0) (b := 0) false (by decide)) ?_
 refine znt ?_
 refine zcf ?_
 refine wp_exit ?_
 repeat first | refine then_exit ?_ | refine block_exit ?_ | refine block_exit_ne (by decide) ?_
 refine then_at rfl ?_
 refine zsr ?_
 refine zwv (.bool true) ?_
 refine znt ?_
 refine wp_ret ?_
 repeat first | refine then_ret ?_ | refine block_ret ?_
 exact bodyPost_ret (by kernel_rfl) rfl ⟨rfl, h6.old.old⟩
theorem list_getD {ps qs : List Nat} (hm : ps.length = qs.length) (h : ∀ j, j < ps.length → ps.getD j 0 = qs.getD j 0) : ps = qs := by
 refine List.ext_getElem hm (fun j h1 h2 => ?_)
 have := h j h1
 rw [List.getD_eq_getElem?_getD, List.getD_eq_getElem?_getD, List.getElem?_eq_getElem h1, List.getElem?_eq_getElem h2] at this
 simpa using this
theorem same_p {w : World} {k n k2 n2 g g2 : Nat} {s s2 : ByteArray} {c c2 : Nat} {ps ps2 : List Nat} {cu cu2 : Array Value} (hk : k = k2) (hn : n = n2) (hs : s = s2) (hm : ps.length = ps2.length) (hl : ps.length ≤ 1000) (hb : Blk w g 3 cu) (hc : ∀ j, j < ps.length → cu[j]? = some (iN .i64 (ps.getD j 0))) (hb2 : Blk w g2 3 cu2) (hc2 : ∀ j, j < ps2.length → cu2[j]? = some (iN .i64 (ps2.getD j 0))) :
  Calls Tryz.prog 63 #[tmv k n s (some ⟨g, 0, none⟩) ps.length c, tmv k2 n2 s2 (some ⟨g2, 0, none⟩) ps2.length c2] w fun e w' => e = .returned (.bool (decide (ps = ps2))) ∧ Below w.heap.size w w' := by
 have H0 := HA.start w
 go_enter Tryz.func63, Tryz.ntmps63
 refine zsr ?_
 refine wl_make (c := #[iN .i64 k, iN .i64 n, .string s, .slice (some ⟨g, 0, none⟩) ps.length c]) H0 74 ?_
 intro q1 w2 (h3 : HA (bs w) [(q1, 74, #[iN .i64 k, iN .i64 n, .string s, .slice (some ⟨g, 0, none⟩) ps.length c])] w2)
 refine wl_make (c := #[iN .i64 k2, iN .i64 n2, .string s2, .slice (some ⟨g2, 0, none⟩) ps2.length c2]) h3 74 ?_
 intro q4 w5 (h6 : HA (bs w) [(q4, 74, #[iN .i64 k2, iN .i64 n2, .string s2, .slice (some ⟨g2, 0, none⟩) ps2.length c2]), (q1, 74, #[iN .i64 k, iN .i64 n, .string s, .slice (some ⟨g, 0, none⟩) ps.length c])] w5)
 refine zwv (.bool false) ?_
 refine znt ?_
 refine wp_seq ?_
 refine zsr ?_
 refine zwv (.pointer (some ⟨q1, 0, none⟩)) ?_
 refine zwu (v := iN .i64 k) (run_load1 Tryz.isAgg3 (((h6.get 1 rfl).cell 0).trans rfl)) ?_
 refine zwv (.pointer (some ⟨q4, 0, none⟩)) ?_
 refine zwu (v := iN .i64 k2) (run_load1 Tryz.isAgg3 (((h6.get 0 rfl).cell 0).trans rfl)) ?_
 refine zwu (run_nei (k := .i64) (a := k) (b := k2) false (decide_eq_false (fun x => x hk))) ?_
 refine zwv (.bool false) ?_
 refine zwv (.pointer (some ⟨q1, 1, none⟩)) ?_
 refine zwu (v := iN .i64 n) (run_load1 Tryz.isAgg3 (((h6.get 1 rfl).cell 1).trans rfl)) ?_
 refine zwv (.pointer (some ⟨q4, 1, none⟩)) ?_
 refine zwu (v := iN .i64 n2) (run_load1 Tryz.isAgg3 (((h6.get 0 rfl).cell 1).trans rfl)) ?_
 refine zwu (run_nei (k := .i64) (a := n) (b := n2) false (decide_eq_false (fun x => x hn))) ?_
 refine zwv (.bool false) ?_
 refine zwv (.bool false) ?_
 refine zwv (.pointer (some ⟨q1, 2, none⟩)) ?_
 refine zwu (v := .string s) (run_load1 Tryz.isAgg9 (((h6.get 1 rfl).cell 2).trans rfl)) ?_
 refine zwv (.pointer (some ⟨q4, 2, none⟩)) ?_
 refine zwu (v := .string s2) (run_load1 Tryz.isAgg9 (((h6.get 0 rfl).cell 2).trans rfl)) ?_
 refine zwu (run_nes (s := s) (t := s2) false (decide_eq_true hs)) ?_
 refine zwv (.bool false) ?_
 refine zwv (.bool false) ?_
 refine zwv (.pointer (some ⟨q1, 3, none⟩)) ?_
 refine zwu (v := .slice (some ⟨g, 0, none⟩) ps.length c) (run_load1 Tryz.isAgg63 (((h6.get 1 rfl).cell 3).trans rfl)) ?_
 refine zwv (iN .i64 ps.length) ?_
 refine zwv (.pointer (some ⟨q4, 3, none⟩)) ?_
 refine zwu (v := .slice (some ⟨g2, 0, none⟩) ps2.length c2) (run_load1 Tryz.isAgg63 (((h6.get 0 rfl).cell 3).trans rfl)) ?_
 refine zwv (iN .i64 ps2.length) ?_
 refine zwu (run_nei (k := .i64) (a := ps.length) (b := ps2.length) false (decide_eq_false (fun x => x hm))) ?_
 refine zwv (.bool false) ?_
 refine znt ?_
 refine zcf ?_
 refine wp_skip ?_
 refine then_at rfl ?_
 refine wp_seq ?_
 refine zsr ?_
 refine zwv (iN .i64 0) ?_
 refine znt ?_
 refine wp_block ?_
 refine wp_count (fun i A w' => ∃ u7 : Nat → Value, A = ⟨(.agg #[iN .i64 k, iN .i64 n, .string s, .slice (some ⟨g, 0, none⟩) ps.length c] :: .agg #[iN .i64 k2, iN .i64 n2, .string s2, .slice (some ⟨g2, 0, none⟩) ps2.length c2] :: pt q1 :: pt q4 :: u7 4 :: iN .i64 i :: pt q1 :: iN .i64 k :: pt q4 :: iN .i64 k2 :: .bool false :: .bool false :: .pointer (some ⟨q1, 1, none⟩) :: iN .i64 n :: .pointer (some ⟨q4, 1, none⟩) :: iN .i64 n2 :: .bool false :: .bool false :: .bool false :: .pointer (some ⟨q1, 2, none⟩) :: .string s :: .pointer (some ⟨q4, 2, none⟩) :: .string s2 :: .bool false :: .bool false :: .bool false :: .pointer (some ⟨q1, 3, none⟩) :: .slice (some ⟨g, 0, none⟩) ps.length c :: iN .i64 ps.length :: .pointer (some ⟨q4, 3, none⟩) :: .slice (some ⟨g2, 0, none⟩) ps2.length c2 :: iN .i64 ps2.length :: .bool false :: .bool false :: u7 34 :: u7 35 :: u7 36 :: u7 37 :: u7 38 :: u7 39 :: u7 40 :: u7 41 :: u7 42 :: u7 43 :: u7 44 :: u7 45 :: u7 46 :: u7 47 :: u7 48 :: u7 49 :: u7 50 :: u7 51 :: List.replicate 0 un).toArray, []⟩ ∧ HA (bs w) [(q4, 74, #[iN .i64 k2, iN .i64 n2, .string s2, .slice (some ⟨g2, 0, none⟩) ps2.length c2]), (q1, 74, #[iN .i64 k, iN .i64 n, .string s, .slice (some ⟨g, 0, none⟩) ps.length c])] w' ∧ (∀ j, j < i → ps.getD j 0 = ps2.getD j 0)) ps.length ?_ ?_ ?_
 ·exact zex ⟨h6, (fun j hj => absurd hj (by omega))⟩
 ·rintro i hi _ w8 ⟨u7, rfl, h9, hpre⟩
  refine wp_seq ?_
  refine zsr ?_
  refine zwv (iN .i64 i) ?_
  refine zwv (.pointer (some ⟨q1, 3, none⟩)) ?_
  refine zwu (v := .slice (some ⟨g, 0, none⟩) ps.length c) (run_load1 Tryz.isAgg63 (((h9.get 1 rfl).cell 3).trans rfl)) ?_
  refine zwv (iN .i64 ps.length) ?_
  refine zwu (run_lss (k := .i64) (a := i) (b := ps.length) true (decide_eq_true (by omega))) ?_
  refine znt ?_
  refine zct ?_
  refine wp_skip ?_
  refine then_at rfl ?_
  refine wp_seq ?_
  refine wp_block ?_
  refine wp_seq ?_
  by_cases hpi : ps.getD i 0 = ps2.getD i 0
  ·refine zrs ⟨(.agg #[iN .i64 k, iN .i64 n, .string s, .slice (some ⟨g, 0, none⟩) ps.length c] :: .agg #[iN .i64 k2, iN .i64 n2, .string s2, .slice (some ⟨g2, 0, none⟩) ps2.length c2] :: pt q1 :: pt q4 :: u7 4 :: iN .i64 i :: pt q1 :: iN .i64 k :: pt q4 :: iN .i64 k2 :: .bool false :: .bool false :: .pointer (some ⟨q1, 1, none⟩) :: iN .i64 n :: .pointer (some ⟨q4, 1, none⟩) :: iN .i64 n2 :: .bool false :: .bool false :: .bool false :: .pointer (some ⟨q1, 2, none⟩) :: .string s :: .pointer (some ⟨q4, 2, none⟩) :: .string s2 :: .bool false :: .bool false :: .bool false :: .pointer (some ⟨q1, 3, none⟩) :: .slice (some ⟨g, 0, none⟩) ps.length c :: iN .i64 ps.length :: .pointer (some ⟨q4, 3, none⟩) :: .slice (some ⟨g2, 0, none⟩) ps2.length c2 :: iN .i64 ps2.length :: .bool false :: .bool false :: iN .i64 i :: .pointer (some ⟨q1, 3, none⟩) :: .slice (some ⟨g, 0, none⟩) ps.length c :: iN .i64 ps.length :: .bool true :: u7 39 :: u7 40 :: .pointer (some ⟨q1, 3, none⟩) :: .slice (some ⟨g, 0, none⟩) ps.length c :: iN .i64 i :: .pointer (some ⟨g, i, none⟩) :: iN .i64 (ps.getD i 0) :: .pointer (some ⟨q4, 3, none⟩) :: .slice (some ⟨g2, 0, none⟩) ps2.length c2 :: iN .i64 i :: .pointer (some ⟨g2, i, none⟩) :: iN .i64 (ps2.getD i 0) :: .bool false :: List.replicate 0 un).toArray, []⟩ (HA (bs w) [(q4, 74, #[iN .i64 k2, iN .i64 n2, .string s2, .slice (some ⟨g2, 0, none⟩) ps2.length c2]), (q1, 74, #[iN .i64 k, iN .i64 n, .string s, .slice (some ⟨g, 0, none⟩) ps.length c])]) h9.drew ?_ ?_
   ·refine zsp (.pointer (some ⟨q1, 3, none⟩)) ?_
    refine zst (v := .slice (some ⟨g, 0, none⟩) ps.length c) (fun w' h' => run_load1 Tryz.isAgg63 (((h'.get 1 rfl).cell 3).trans rfl)) ?_
    refine zsp (iN .i64 i) ?_
    refine zst (v := .pointer (some ⟨g, i, none⟩)) (fun _ _ => (run_addr_slice (q := g) (n := ps.length) (m := c) (a := i) Tryz.underlying63 Tryz.sizeOf3 (by omega))) ?_
    refine zst (v := iN .i64 (ps.getD i 0)) (fun w' h' => run_load1 Tryz.isAgg3 (((hb.keep h'.old.old).cell i).trans (hc i (by omega)))) ?_
    refine zsp (.pointer (some ⟨q4, 3, none⟩)) ?_
    refine zst (v := .slice (some ⟨g2, 0, none⟩) ps2.length c2) (fun w' h' => run_load1 Tryz.isAgg63 (((h'.get 0 rfl).cell 3).trans rfl)) ?_
    refine zsp (iN .i64 i) ?_
    refine zst (v := .pointer (some ⟨g2, i, none⟩)) (fun _ _ => (run_addr_slice (q := g2) (n := ps2.length) (m := c2) (a := i) Tryz.underlying63 Tryz.sizeOf3 (by omega))) ?_
    refine zst (v := iN .i64 (ps2.getD i 0)) (fun w' h' => run_load1 Tryz.isAgg3 (((hb2.keep h'.old.old).cell i).trans (hc2 i (by omega)))) ?_
    refine zst (fun _ _ => (run_nei (k := .i64) (a := ps.getD i 0) (b := ps2.getD i 0) false (decide_eq_false (fun x => x hpi)))) ?_
    exact AllSure.nil
   intro w10 h11
   refine then_at rfl ?_
   refine zcf ?_
   refine wp_skip ?_
   refine block_normal ?_
   refine then_at rfl ?_
   refine wl_region ?_
   refine zwv (iN .i64 i) ?_
   refine zwu (run_add (k := .i64) (a := i) (b := 1) (by simp only [top]; omega)) ?_
   refine zwv (iN .i64 (i + 1)) ?_
   refine wl_nil ?_
   exact then_I ⟨lku u7 [(34, iN .i64 i), (35, .pointer (some ⟨q1, 3, none⟩)), (36, .slice (some ⟨g, 0, none⟩) ps.length c), (37, iN .i64 ps.length), (38, .bool true), (39, iN .i64 i), (40, iN .i64 (i + 1)), (41, .pointer (some ⟨q1, 3, none⟩)), (42, .slice (some ⟨g, 0, none⟩) ps.length c), (43, iN .i64 i), (44, .pointer (some ⟨g, i, none⟩)), (45, iN .i64 (ps.getD i 0)), (46, .pointer (some ⟨q4, 3, none⟩)), (47, .slice (some ⟨g2, 0, none⟩) ps2.length c2), (48, iN .i64 i), (49, .pointer (some ⟨g2, i, none⟩)), (50, iN .i64 (ps2.getD i 0)), (51, .bool false)], by kernel_rfl, h11, (fun j hj => by exact (Nat.lt_succ_iff_lt_or_eq.1 hj).elim (hpre j) (fun h => by rw [h]; exact hpi))⟩
  ·refine zrs ⟨(.agg #[iN .i64 k, iN .i64 n, .string s, .slice (some ⟨g, 0, none⟩) ps.length c] :: .agg #[iN .i64 k2, iN .i64 n2, .string s2, .slice (some ⟨g2, 0, none⟩) ps2.length c2] :: pt q1 :: pt q4 :: u7 4 :: iN .i64 i :: pt q1 :: iN .i64 k :: pt q4 :: iN .i64 k2 :: .bool false :: .bool false :: .pointer (some ⟨q1, 1, none⟩) :: iN .i64 n :: .pointer (some ⟨q4, 1, none⟩) :: iN .i64 n2 :: .bool false :: .bool false :: .bool false :: .pointer (some ⟨q1, 2, none⟩) :: .string s :: .pointer (some ⟨q4, 2, none⟩) :: .string s2 :: .bool false :: .bool false :: .bool false :: .pointer (some ⟨q1, 3, none⟩) :: .slice (some ⟨g, 0, none⟩) ps.length c :: iN .i64 ps.length :: .pointer (some ⟨q4, 3, none⟩) :: .slice (some ⟨g2, 0, none⟩) ps2.length c2 :: iN .i64 ps2.length :: .bool false :: .bool false :: iN .i64 i :: .pointer (some ⟨q1, 3, none⟩) :: .slice (some ⟨g, 0, none⟩) ps.length c :: iN .i64 ps.length :: .bool true :: u7 39 :: u7 40 :: .pointer (some ⟨q1, 3, none⟩) :: .slice (some ⟨g, 0, none⟩) ps.length c :: iN .i64 i :: .pointer (some ⟨g, i, none⟩) :: iN .i64 (ps.getD i 0) :: .pointer (some ⟨q4, 3, none⟩) :: .slice (some ⟨g2, 0, none⟩) ps2.length c2 :: iN .i64 i :: .pointer (some ⟨g2, i, none⟩) :: iN .i64 (ps2.getD i 0) :: .bool true :: List.replicate 0 un).toArray, []⟩ (HA (bs w) [(q4, 74, #[iN .i64 k2, iN .i64 n2, .string s2, .slice (some ⟨g2, 0, none⟩) ps2.length c2]), (q1, 74, #[iN .i64 k, iN .i64 n, .string s, .slice (some ⟨g, 0, none⟩) ps.length c])]) h9.drew ?_ ?_
   ·refine zsp (.pointer (some ⟨q1, 3, none⟩)) ?_
    refine zst (v := .slice (some ⟨g, 0, none⟩) ps.length c) (fun w' h' => run_load1 Tryz.isAgg63 (((h'.get 1 rfl).cell 3).trans rfl)) ?_
    refine zsp (iN .i64 i) ?_
    refine zst (v := .pointer (some ⟨g, i, none⟩)) (fun _ _ => (run_addr_slice (q := g) (n := ps.length) (m := c) (a := i) Tryz.underlying63 Tryz.sizeOf3 (by omega))) ?_
    refine zst (v := iN .i64 (ps.getD i 0)) (fun w' h' => run_load1 Tryz.isAgg3 (((hb.keep h'.old.old).cell i).trans (hc i (by omega)))) ?_
    refine zsp (.pointer (some ⟨q4, 3, none⟩)) ?_
    refine zst (v := .slice (some ⟨g2, 0, none⟩) ps2.length c2) (fun w' h' => run_load1 Tryz.isAgg63 (((h'.get 0 rfl).cell 3).trans rfl)) ?_
    refine zsp (iN .i64 i) ?_
    refine zst (v := .pointer (some ⟨g2, i, none⟩)) (fun _ _ => (run_addr_slice (q := g2) (n := ps2.length) (m := c2) (a := i) Tryz.underlying63 Tryz.sizeOf3 (by omega))) ?_
    refine zst (v := iN .i64 (ps2.getD i 0)) (fun w' h' => run_load1 Tryz.isAgg3 (((hb2.keep h'.old.old).cell i).trans (hc2 i (by omega)))) ?_
    refine zst (fun _ _ => (run_nei (k := .i64) (a := ps.getD i 0) (b := ps2.getD i 0) true (decide_eq_true hpi))) ?_
    exact AllSure.nil
   intro w12 h13
   refine then_at rfl ?_
   refine zct ?_
   refine zsr ?_
   refine zwv (.bool false) ?_
   refine znt ?_
   refine wp_ret ?_
   repeat first | refine then_ret ?_ | refine block_ret ?_
   exact bodyPost_ret (v := .bool false) (by kernel_rfl) rfl ⟨by rw [decide_eq_false (fun e => hpi (by rw [e]))], h13.old.old⟩
 ·rintro _ w14 ⟨u7, rfl, h15, hpre⟩
  refine wp_seq ?_
  refine zsr ?_
  refine zwv (iN .i64 ps.length) ?_
  refine zwv (.pointer (some ⟨q1, 3, none⟩)) ?_
  refine zwu (v := .slice (some ⟨g, 0, none⟩) ps.length c) (run_load1 Tryz.isAgg63 (((h15.get 1 rfl).cell 3).trans rfl)) ?_
  refine zwv (iN .i64 ps.length) ?_
  refine zwu (run_lss (k := .i64) (a := ps.length) (b := ps.length) false (decide_eq_false (by omega))) ?_
  refine znt ?_
  refine zcf ?_
  refine wp_exit ?_
  repeat first | refine then_exit ?_ | refine block_exit ?_ | refine block_exit_ne (by decide) ?_
  refine then_at rfl ?_
  refine zsr ?_
  refine zwv (.bool true) ?_
  refine znt ?_
  refine wp_ret ?_
  repeat first | refine then_ret ?_ | refine block_ret ?_
  exact bodyPost_ret (v := .bool true) (by kernel_rfl) rfl ⟨by rw [decide_eq_true (list_getD hm hpre)], h15.old.old⟩
theorem same_any {w : World} {k n k2 n2 : Nat} {s s2 : ByteArray} {o o2 : Option Addr} {c c2 : Nat} {ps ps2 : List Nat} (r1 : RI 0 w o ps) (r2 : RI 0 w o2 ps2) (hl : ps.length ≤ 1000) :
  Calls Tryz.prog 63 #[tmv k n s o ps.length c, tmv k2 n2 s2 o2 ps2.length c2] w fun e w' => e = .returned (.bool (decide (k = k2 ∧ n = n2 ∧ s = s2 ∧ ps = ps2))) ∧ Below w.heap.size w w' := by
 by_cases hk : k = k2
 ·by_cases hn : n = n2
  ·by_cases hs : s = s2
   ·by_cases hm : ps.length = ps2.length
    ·rcases r1 with rfl | ⟨g, cu, rfl, _, hb, hc⟩
     ·obtain rfl : ps2 = [] := List.length_eq_zero_iff.1 hm.symm
      rw [decide_eq_true ⟨hk, hn, hs, rfl⟩]
      exact same_0 hk hn hs
     ·rcases r2 with rfl | ⟨g2, cu2, rfl, _, hb2, hc2⟩
      ·obtain rfl : ps = [] := List.length_eq_zero_iff.1 hm
       rw [decide_eq_true ⟨hk, hn, hs, rfl⟩]
       exact same_0 hk hn hs
      ·have := same_p (c := c) (c2 := c2) hk hn hs hm hl hb hc hb2 hc2
       simpa [hk, hn, hs] using this
    ·rw [decide_eq_false (fun e => hm (by rw [e.2.2.2]))]
     exact same_m hk hn hs hm
   ·rw [decide_eq_false (fun e => hs e.2.2.1)]
    exact same_s hk hn hs
  ·rw [decide_eq_false (fun e => hn e.2.1)]
   exact same_n hk hn
 ·rw [decide_eq_false (fun e => hk e.1)]
  exact same_k hk
end Go.Proofs.YtihfeoanognonaaGreat
