/-
 The reference's count.
-/
import Derived.Test.YtihfeoanognonaaGreatG2
namespace Go.Proofs.YtihfeoanognonaaGreat
set_option linter.unusedVariables false
set_option maxRecDepth 100000
set_option maxHeartbeats 2000000
open Go.RowKit
theorem cn3_y  (n : Nat) (w : World) (hn : n = 1) :
  Calls Tryz.prog 38 #[iN .i64 3, iN .i64 n] w fun e w' => e = .returned (.bool true) ∧ Below w.heap.size w w' := by
 have H0 := HA.start w
 go_enter Tryz.func38, Tryz.ntmps38
 refine zsr ?_
 refine zwv (.bool false) ?_
 refine znt ?_
 refine wp_seq ?_
 refine zsr ?_
 refine zwv (iN .i64 3) ?_
 refine znt ?_
 refine wp_block ?_
 refine zsr ?_
 refine zwu (run_eqi (k := .i64) (a := 3) (b := 3) true) ?_
 refine zwv (.bool true) ?_
 refine znt ?_
 refine zct ?_
 refine zsr ?_
 refine zwv (iN .i64 n) ?_
 refine zwu (run_eqi (k := .i64) (a := n) (b := 1) true (ht := (decide_eq_true hn))) ?_
 refine zwv (.bool true) ?_
 refine znt ?_
 refine wp_ret ?_
 repeat first | refine then_ret ?_ | refine block_ret ?_
 exact bodyPost_ret (by kernel_rfl) rfl ⟨rfl, H0.old.old⟩
theorem cn3_n  (n : Nat) (w : World) (hn : ¬ n = 1) :
  Calls Tryz.prog 38 #[iN .i64 3, iN .i64 n] w fun e w' => e = .returned (.bool false) ∧ Below w.heap.size w w' := by
 have H0 := HA.start w
 go_enter Tryz.func38, Tryz.ntmps38
 refine zsr ?_
 refine zwv (.bool false) ?_
 refine znt ?_
 refine wp_seq ?_
 refine zsr ?_
 refine zwv (iN .i64 3) ?_
 refine znt ?_
 refine wp_block ?_
 refine zsr ?_
 refine zwu (run_eqi (k := .i64) (a := 3) (b := 3) true) ?_
 refine zwv (.bool true) ?_
 refine znt ?_
 refine zct ?_
 refine zsr ?_
 refine zwv (iN .i64 n) ?_
 refine zwu (run_eqi (k := .i64) (a := n) (b := 1) false (ht := (decide_eq_false hn))) ?_
 refine zwv (.bool false) ?_
 refine znt ?_
 refine wp_ret ?_
 repeat first | refine then_ret ?_ | refine block_ret ?_
 exact bodyPost_ret (by kernel_rfl) rfl ⟨rfl, H0.old.old⟩
theorem cn4_y  (n : Nat) (w : World) (hn : n = 2) :
  Calls Tryz.prog 38 #[iN .i64 4, iN .i64 n] w fun e w' => e = .returned (.bool true) ∧ Below w.heap.size w w' := by
 have H0 := HA.start w
 go_enter Tryz.func38, Tryz.ntmps38
 refine zsr ?_
 refine zwv (.bool false) ?_
 refine znt ?_
 refine wp_seq ?_
 refine zsr ?_
 refine zwv (iN .i64 4) ?_
 refine znt ?_
 refine wp_block ?_
 refine zsr ?_
 refine zwu (run_eqi (k := .i64) (a := 4) (b := 3) false) ?_
 refine zwv (.bool false) ?_
 refine znt ?_
 refine zcf ?_
 refine wp_seq ?_
 refine zsr ?_
 refine zwu (run_eqi (k := .i64) (a := 4) (b := 4) true) ?_
 refine zwv (.bool true) ?_
 refine znt ?_
 refine zct ?_
 refine wp_skip ?_
 refine then_at rfl ?_
 refine zct ?_
 refine zsr ?_
 refine zwv (iN .i64 n) ?_
 refine zwu (run_eqi (k := .i64) (a := n) (b := 2) true (ht := (decide_eq_true hn))) ?_
 refine zwv (.bool true) ?_
 refine znt ?_
 refine wp_ret ?_
 repeat first | refine then_ret ?_ | refine block_ret ?_
 exact bodyPost_ret (by kernel_rfl) rfl ⟨rfl, H0.old.old⟩
theorem cn4_n  (n : Nat) (w : World) (hn : ¬ n = 2) :
  Calls Tryz.prog 38 #[iN .i64 4, iN .i64 n] w fun e w' => e = .returned (.bool false) ∧ Below w.heap.size w w' := by
 have H0 := HA.start w
 go_enter Tryz.func38, Tryz.ntmps38
 refine zsr ?_
 refine zwv (.bool false) ?_
 refine znt ?_
 refine wp_seq ?_
 refine zsr ?_
 refine zwv (iN .i64 4) ?_
 refine znt ?_
 refine wp_block ?_
 refine zsr ?_
 refine zwu (run_eqi (k := .i64) (a := 4) (b := 3) false) ?_
 refine zwv (.bool false) ?_
 refine znt ?_
 refine zcf ?_
 refine wp_seq ?_
 refine zsr ?_
 refine zwu (run_eqi (k := .i64) (a := 4) (b := 4) true) ?_
 refine zwv (.bool true) ?_
 refine znt ?_
 refine zct ?_
 refine wp_skip ?_
 refine then_at rfl ?_
 refine zct ?_
 refine zsr ?_
 refine zwv (iN .i64 n) ?_
 refine zwu (run_eqi (k := .i64) (a := n) (b := 2) false (ht := (decide_eq_false hn))) ?_
 refine zwv (.bool false) ?_
 refine znt ?_
 refine wp_ret ?_
 repeat first | refine then_ret ?_ | refine block_ret ?_
 exact bodyPost_ret (by kernel_rfl) rfl ⟨rfl, H0.old.old⟩
theorem cn7_y  (n : Nat) (w : World) (hn : n = 2) :
  Calls Tryz.prog 38 #[iN .i64 7, iN .i64 n] w fun e w' => e = .returned (.bool true) ∧ Below w.heap.size w w' := by
 have H0 := HA.start w
 go_enter Tryz.func38, Tryz.ntmps38
 refine zsr ?_
 refine zwv (.bool false) ?_
 refine znt ?_
 refine wp_seq ?_
 refine zsr ?_
 refine zwv (iN .i64 7) ?_
 refine znt ?_
 refine wp_block ?_
 refine zsr ?_
 refine zwu (run_eqi (k := .i64) (a := 7) (b := 3) false) ?_
 refine zwv (.bool false) ?_
 refine znt ?_
 refine zcf ?_
 refine wp_seq ?_
 refine zsr ?_
 refine zwu (run_eqi (k := .i64) (a := 7) (b := 4) false) ?_
 refine zwv (.bool false) ?_
 refine znt ?_
 refine zcf ?_
 refine wl_region ?_
 refine zwu (run_eqi (k := .i64) (a := 7) (b := 7) true) ?_
 refine zwv (.bool true) ?_
 refine znt ?_
 refine zct ?_
 refine zsr ?_
 refine zwv (iN .i64 n) ?_
 refine zwu (run_eqi (k := .i64) (a := n) (b := 2) true (ht := (decide_eq_true hn))) ?_
 refine zwv (.bool true) ?_
 refine znt ?_
 refine wp_ret ?_
 repeat first | refine then_ret ?_ | refine block_ret ?_
 exact bodyPost_ret (by kernel_rfl) rfl ⟨rfl, H0.old.old⟩
theorem cn7_n  (n : Nat) (w : World) (hn : ¬ n = 2) :
  Calls Tryz.prog 38 #[iN .i64 7, iN .i64 n] w fun e w' => e = .returned (.bool false) ∧ Below w.heap.size w w' := by
 have H0 := HA.start w
 go_enter Tryz.func38, Tryz.ntmps38
 refine zsr ?_
 refine zwv (.bool false) ?_
 refine znt ?_
 refine wp_seq ?_
 refine zsr ?_
 refine zwv (iN .i64 7) ?_
 refine znt ?_
 refine wp_block ?_
 refine zsr ?_
 refine zwu (run_eqi (k := .i64) (a := 7) (b := 3) false) ?_
 refine zwv (.bool false) ?_
 refine znt ?_
 refine zcf ?_
 refine wp_seq ?_
 refine zsr ?_
 refine zwu (run_eqi (k := .i64) (a := 7) (b := 4) false) ?_
 refine zwv (.bool false) ?_
 refine znt ?_
 refine zcf ?_
 refine wl_region ?_
 refine zwu (run_eqi (k := .i64) (a := 7) (b := 7) true) ?_
 refine zwv (.bool true) ?_
 refine znt ?_
 refine zct ?_
 refine zsr ?_
 refine zwv (iN .i64 n) ?_
 refine zwu (run_eqi (k := .i64) (a := n) (b := 2) false (ht := (decide_eq_false hn))) ?_
 refine zwv (.bool false) ?_
 refine znt ?_
 refine wp_ret ?_
 repeat first | refine then_ret ?_ | refine block_ret ?_
 exact bodyPost_ret (by kernel_rfl) rfl ⟨rfl, H0.old.old⟩
theorem cn6_y  (n : Nat) (w : World) (hn : n = 4) :
  Calls Tryz.prog 38 #[iN .i64 6, iN .i64 n] w fun e w' => e = .returned (.bool true) ∧ Below w.heap.size w w' := by
 have H0 := HA.start w
 go_enter Tryz.func38, Tryz.ntmps38
 refine zsr ?_
 refine zwv (.bool false) ?_
 refine znt ?_
 refine wp_seq ?_
 refine zsr ?_
 refine zwv (iN .i64 6) ?_
 refine znt ?_
 refine wp_block ?_
 refine zsr ?_
 refine zwu (run_eqi (k := .i64) (a := 6) (b := 3) false) ?_
 refine zwv (.bool false) ?_
 refine znt ?_
 refine zcf ?_
 refine wp_seq ?_
 refine zsr ?_
 refine zwu (run_eqi (k := .i64) (a := 6) (b := 4) false) ?_
 refine zwv (.bool false) ?_
 refine znt ?_
 refine zcf ?_
 refine wl_region ?_
 refine zwu (run_eqi (k := .i64) (a := 6) (b := 7) false) ?_
 refine zwv (.bool false) ?_
 refine znt ?_
 refine zcf ?_
 refine zsr ?_
 refine zwu (run_eqi (k := .i64) (a := 6) (b := 6) true) ?_
 refine zwv (.bool true) ?_
 refine znt ?_
 refine zct ?_
 refine zsr ?_
 refine zwv (iN .i64 n) ?_
 refine zwu (run_eqi (k := .i64) (a := n) (b := 4) true (ht := (decide_eq_true hn))) ?_
 refine zwv (.bool true) ?_
 refine znt ?_
 refine wp_ret ?_
 repeat first | refine then_ret ?_ | refine block_ret ?_
 exact bodyPost_ret (by kernel_rfl) rfl ⟨rfl, H0.old.old⟩
theorem cn6_n  (n : Nat) (w : World) (hn : ¬ n = 4) :
  Calls Tryz.prog 38 #[iN .i64 6, iN .i64 n] w fun e w' => e = .returned (.bool false) ∧ Below w.heap.size w w' := by
 have H0 := HA.start w
 go_enter Tryz.func38, Tryz.ntmps38
 refine zsr ?_
 refine zwv (.bool false) ?_
 refine znt ?_
 refine wp_seq ?_
 refine zsr ?_
 refine zwv (iN .i64 6) ?_
 refine znt ?_
 refine wp_block ?_
 refine zsr ?_
 refine zwu (run_eqi (k := .i64) (a := 6) (b := 3) false) ?_
 refine zwv (.bool false) ?_
 refine znt ?_
 refine zcf ?_
 refine wp_seq ?_
 refine zsr ?_
 refine zwu (run_eqi (k := .i64) (a := 6) (b := 4) false) ?_
 refine zwv (.bool false) ?_
 refine znt ?_
 refine zcf ?_
 refine wl_region ?_
 refine zwu (run_eqi (k := .i64) (a := 6) (b := 7) false) ?_
 refine zwv (.bool false) ?_
 refine znt ?_
 refine zcf ?_
 refine zsr ?_
 refine zwu (run_eqi (k := .i64) (a := 6) (b := 6) true) ?_
 refine zwv (.bool true) ?_
 refine znt ?_
 refine zct ?_
 refine zsr ?_
 refine zwv (iN .i64 n) ?_
 refine zwu (run_eqi (k := .i64) (a := n) (b := 4) false (ht := (decide_eq_false hn))) ?_
 refine zwv (.bool false) ?_
 refine znt ?_
 refine wp_ret ?_
 repeat first | refine then_ret ?_ | refine block_ret ?_
 exact bodyPost_ret (by kernel_rfl) rfl ⟨rfl, H0.old.old⟩
theorem cn5_y  (n : Nat) (w : World) (hn : n ≤ 100) :
  Calls Tryz.prog 38 #[iN .i64 5, iN .i64 n] w fun e w' => e = .returned (.bool true) ∧ Below w.heap.size w w' := by
 have H0 := HA.start w
 go_enter Tryz.func38, Tryz.ntmps38
 refine zsr ?_
 refine zwv (.bool false) ?_
 refine znt ?_
 refine wp_seq ?_
 refine zsr ?_
 refine zwv (iN .i64 5) ?_
 refine znt ?_
 refine wp_block ?_
 refine zsr ?_
 refine zwu (run_eqi (k := .i64) (a := 5) (b := 3) false) ?_
 refine zwv (.bool false) ?_
 refine znt ?_
 refine zcf ?_
 refine wp_seq ?_
 refine zsr ?_
 refine zwu (run_eqi (k := .i64) (a := 5) (b := 4) false) ?_
 refine zwv (.bool false) ?_
 refine znt ?_
 refine zcf ?_
 refine wl_region ?_
 refine zwu (run_eqi (k := .i64) (a := 5) (b := 7) false) ?_
 refine zwv (.bool false) ?_
 refine znt ?_
 refine zcf ?_
 refine zsr ?_
 refine zwu (run_eqi (k := .i64) (a := 5) (b := 6) false) ?_
 refine zwv (.bool false) ?_
 refine znt ?_
 refine zcf ?_
 refine zsr ?_
 refine zwu (run_eqi (k := .i64) (a := 5) (b := 5) true) ?_
 refine zwv (.bool true) ?_
 refine znt ?_
 refine zct ?_
 refine zsr ?_
 refine zwv (iN .i64 n) ?_
 refine zwu (run_leq (k := .i64) (a := n) (b := 100) true (decide_eq_true hn)) ?_
 refine zwv (.bool true) ?_
 refine znt ?_
 refine wp_ret ?_
 repeat first | refine then_ret ?_ | refine block_ret ?_
 exact bodyPost_ret (by kernel_rfl) rfl ⟨rfl, H0.old.old⟩
theorem cn5_n  (n : Nat) (w : World) (hn : ¬ n ≤ 100) :
  Calls Tryz.prog 38 #[iN .i64 5, iN .i64 n] w fun e w' => e = .returned (.bool false) ∧ Below w.heap.size w w' := by
 have H0 := HA.start w
 go_enter Tryz.func38, Tryz.ntmps38
 refine zsr ?_
 refine zwv (.bool false) ?_
 refine znt ?_
 refine wp_seq ?_
 refine zsr ?_
 refine zwv (iN .i64 5) ?_
 refine znt ?_
 refine wp_block ?_
 refine zsr ?_
 refine zwu (run_eqi (k := .i64) (a := 5) (b := 3) false) ?_
 refine zwv (.bool false) ?_
 refine znt ?_
 refine zcf ?_
 refine wp_seq ?_
 refine zsr ?_
 refine zwu (run_eqi (k := .i64) (a := 5) (b := 4) false) ?_
 refine zwv (.bool false) ?_
 refine znt ?_
 refine zcf ?_
 refine wl_region ?_
 refine zwu (run_eqi (k := .i64) (a := 5) (b := 7) false) ?_
 refine zwv (.bool false) ?_
 refine znt ?_
 refine zcf ?_
 refine zsr ?_
 refine zwu (run_eqi (k := .i64) (a := 5) (b := 6) false) ?_
 refine zwv (.bool false) ?_
 refine znt ?_
 refine zcf ?_
 refine zsr ?_
 refine zwu (run_eqi (k := .i64) (a := 5) (b := 5) true) ?_
 refine zwv (.bool true) ?_
 refine znt ?_
 refine zct ?_
 refine zsr ?_
 refine zwv (iN .i64 n) ?_
 refine zwu (run_leq (k := .i64) (a := n) (b := 100) false (decide_eq_false hn)) ?_
 refine zwv (.bool false) ?_
 refine znt ?_
 refine wp_ret ?_
 repeat first | refine then_ret ?_ | refine block_ret ?_
 exact bodyPost_ret (by kernel_rfl) rfl ⟨rfl, H0.old.old⟩
theorem cn_o (z : Int) (hz : z ≠ 3 ∧ z ≠ 4 ∧ z ≠ 5 ∧ z ≠ 6 ∧ z ≠ 7) (n : Nat) (w : World) :
  Calls Tryz.prog 38 #[.int .i64 z, iN .i64 n] w fun e w' => e = .returned (.bool false) ∧ Below w.heap.size w w' := by
 have H0 := HA.start w
 go_enter Tryz.func38, Tryz.ntmps38
 refine zsr ?_
 refine zwv (.bool false) ?_
 refine znt ?_
 refine wp_seq ?_
 refine zsr ?_
 refine zwv (.int .i64 z) ?_
 refine znt ?_
 refine wp_block ?_
 refine zsr ?_
 refine zwu (v := .bool false) (run_eqz (k := .i64) (a := z) (b := 3) false (decide_eq_false (by omega))) ?_
 refine zwv (.bool false) ?_
 refine znt ?_
 refine zcf ?_
 refine wp_seq ?_
 refine zsr ?_
 refine zwu (v := .bool false) (run_eqz (k := .i64) (a := z) (b := 4) false (decide_eq_false (by omega))) ?_
 refine zwv (.bool false) ?_
 refine znt ?_
 refine zcf ?_
 refine wl_region ?_
 refine zwu (v := .bool false) (run_eqz (k := .i64) (a := z) (b := 7) false (decide_eq_false (by omega))) ?_
 refine zwv (.bool false) ?_
 refine znt ?_
 refine zcf ?_
 refine zsr ?_
 refine zwu (v := .bool false) (run_eqz (k := .i64) (a := z) (b := 6) false (decide_eq_false (by omega))) ?_
 refine zwv (.bool false) ?_
 refine znt ?_
 refine zcf ?_
 refine zsr ?_
 refine zwu (v := .bool false) (run_eqz (k := .i64) (a := z) (b := 5) false (decide_eq_false (by omega))) ?_
 refine zwv (.bool false) ?_
 refine znt ?_
 refine zcf ?_
 refine wp_skip ?_
 refine block_normal ?_
 refine then_at rfl ?_
 refine zsr ?_
 refine zwv (.bool false) ?_
 refine znt ?_
 refine wp_ret ?_
 repeat first | refine then_ret ?_ | refine block_ret ?_
 exact bodyPost_ret (by kernel_rfl) rfl ⟨rfl, H0.old.old⟩
def cntB (z : Int) (n : Nat) : Bool := if z = 3 then decide (n = 1) else if z = 4 ∨ z = 7 then decide (n = 2) else if z = 6 then decide (n = 4) else if z = 5 then decide (n ≤ 100) else false
theorem count_any (z : Int) (n : Nat) (w : World) :
  Calls Tryz.prog 38 #[.int .i64 z, iN .i64 n] w fun e w' => e = .returned (.bool (cntB z n)) ∧ Below w.heap.size w w' := by
 by_cases h3 : z = 3
 ·subst h3
  by_cases hn : n = 1
  ·rw [show cntB 3 n = true by simp [cntB, hn]]; exact cn3_y n w hn
  ·rw [show cntB 3 n = false by simp [cntB, hn]]; exact cn3_n n w hn
 by_cases h4 : z = 4
 ·subst h4
  by_cases hn : n = 2
  ·rw [show cntB 4 n = true by simp [cntB, hn]]; exact cn4_y n w hn
  ·rw [show cntB 4 n = false by simp [cntB, hn]]; exact cn4_n n w hn
 by_cases h7 : z = 7
 ·subst h7
  by_cases hn : n = 2
  ·rw [show cntB 7 n = true by simp [cntB, hn]]; exact cn7_y n w hn
  ·rw [show cntB 7 n = false by simp [cntB, hn]]; exact cn7_n n w hn
 by_cases h6 : z = 6
 ·subst h6
  by_cases hn : n = 4
  ·rw [show cntB 6 n = true by simp [cntB, hn]]; exact cn6_y n w hn
  ·rw [show cntB 6 n = false by simp [cntB, hn]]; exact cn6_n n w hn
 by_cases h5 : z = 5
 ·subst h5
  by_cases hn : n ≤ 100
  ·rw [show cntB 5 n = true by simp [cntB, hn]]; exact cn5_y n w hn
  ·rw [show cntB 5 n = false by simp [cntB, hn]]; exact cn5_n n w hn
 rw [show cntB z n = false by simp [cntB, h3, h4, h5, h6, h7]]
 exact cn_o z ⟨h3, h4, h5, h6, h7⟩ n w
theorem mayB_cnt (z : Int) (s : ByteArray) (n : Nat) : mayB z s n = (cntB z n && (decide (s = { data := #[] }) || decide (z = 5))) := by
 unfold mayB cntB
 by_cases h3 : z = 3
 ·subst h3; by_cases hs : s = { data := #[] } <;> simp [hs]
 by_cases h4 : z = 4
 ·subst h4; by_cases hs : s = { data := #[] } <;> simp [hs]
 by_cases h7 : z = 7
 ·subst h7; by_cases hs : s = { data := #[] } <;> simp [hs]
 by_cases h6 : z = 6
 ·subst h6; by_cases hs : s = { data := #[] } <;> simp [hs]
 by_cases h5 : z = 5
 ·subst h5; simp
 simp [h3, h4, h5, h6, h7]
end Go.Proofs.YtihfeoanognonaaGreat

namespace Go.Proofs.YtihfeoanognonaaGreat
set_option linter.unusedVariables false
set_option maxRecDepth 100000
set_option maxHeartbeats 2000000
open Go.RowKit
theorem run_geqz {ρ : Operand → Value} {x y : Operand} {w : World} {dst : Option Tmp} {T T2 ty : TypeId} {pos : String} {aft : Array Edge} {gd : Option (Nat × Bool)} {P : Program} {z : Int} (hx : ρ x = .int .i64 z) (hy : ρ y = iN .i64 0) (hz : z < 0) : (execOp ρ ⟨dst, .binOp .geq T x y T2, ty, pos, aft, gd⟩).run P w = .ok (.value (.bool false)) w := by
 simp only [execOp, hx, hy, iN]
 simp [binOp, go_sem]
 omega
def pcT (n : Nat) (S : ByteArray) : ByteArray := txt (n % 300) ++ S.extract 0 (min S.size 20)
def pcS (z : Int) (S : ByteArray) : ByteArray := if 0 ≤ z then pcT z.toNat S else S.extract 0 (min S.size 60)
theorem pcT_size (n : Nat) (S : ByteArray) : (pcT n S).size ≤ 28 := by unfold pcT; rw [ByteArray.size_append, txt_size, ByteArray.size_extract]; omega
theorem pcS_size (z : Int) (S : ByteArray) : (pcS z S).size ≤ 60 := by
 unfold pcS
 split
 ·exact Nat.le_trans (pcT_size _ _) (by decide)
 ·rw [ByteArray.size_extract]; omega
theorem text_y (n : Nat) (S : ByteArray) (w : World) :
  Calls Tryz.prog 17 #[.agg #[iN .i64 n, .string S]] w fun e w' => e = .returned (.string (pcT n S)) ∧ Below w.heap.size w w' := by
 have H0 := HA.start w
 go_enter Tryz.func17, Tryz.ntmps17
 refine zsr ?_
 refine wl_make (c := #[iN .i64 n, .string S]) H0 54 ?_
 intro q1 w2 (h3 : HA (bs w) [(q1, 54, #[iN .i64 n, .string S])] w2)
 refine zwv (.string ({ data := #[] })) ?_
 refine znt ?_
 refine wp_seq ?_
 refine zsr ?_
 refine zwv (.pointer (some ⟨q1, 0, none⟩)) ?_
 refine zwu (v := iN .i64 n) (run_load1 Tryz.isAgg3 (((h3.get 0 rfl).cell 0).trans rfl)) ?_
 refine zwu (run_geq (k := .i64) (a := n) (b := 0) true (decide_eq_true (by omega))) ?_
 refine znt ?_
 refine zct ?_
 refine wp_seq ?_
 refine zrs ⟨(.agg #[iN .i64 n, .string S] :: pt q1 :: .string (pcT n S) :: pt q1 :: iN .i64 n :: .bool true :: pt q1 :: iN .i64 n :: iN .i64 (n % 300) :: .string (txt (n % 300)) :: .pointer (some ⟨q1, 1, none⟩) :: .string S :: .pointer (some ⟨q1, 1, none⟩) :: .string S :: iN .i64 S.size :: iN .i64 (min S.size 20) :: .string (S.extract 0 (min S.size 20)) :: .string (pcT n S) :: List.replicate 7 un).toArray, []⟩ (HA (bs w) [(q1, 54, #[iN .i64 n, .string S])]) h3.drew ?_ ?_
 ·refine zsp (.pointer (some ⟨q1, 0, none⟩)) ?_
  refine zst (v := iN .i64 n) (fun w' h' => run_load1 Tryz.isAgg3 (((h'.get 0 rfl).cell 0).trans rfl)) ?_
  refine zst (fun _ _ => (run_rem (k := .i64) (a := n) (b := 300) (by kernel_rfl) (by kernel_rfl) (by omega))) ?_
  refine zsc enter30 HA.keep (fun w' h' => rtext_any (n % 300) (by omega) w') ?_
  refine zsp (.pointer (some ⟨q1, 1, none⟩)) ?_
  refine zst (v := .string S) (fun w' h' => run_load1 Tryz.isAgg9 (((h'.get 0 rfl).cell 1).trans rfl)) ?_
  refine zsp (.pointer (some ⟨q1, 1, none⟩)) ?_
  refine zst (v := .string S) (fun w' h' => run_load1 Tryz.isAgg9 (((h'.get 0 rfl).cell 1).trans rfl)) ?_
  refine zst (fun _ _ => (run_len (s := S))) ?_
  refine zst (fun _ _ => (run_min (i := S.size) (j := 20))) ?_
  refine zst (v := .string (S.extract 0 (min S.size 20))) (fun _ _ => (run_cut_hi (s := S) (b := min S.size 20) (by omega))) ?_
  refine zst (v := .string (pcT n S)) (fun _ _ => (run_cat (s := txt (n % 300)) (t := S.extract 0 (min S.size 20)) (by rw [txt_size, ByteArray.size_extract]; omega))) ?_
  refine zsp (.string (pcT n S)) ?_
  exact AllSure.nil
 intro w4 h5
 refine then_at rfl ?_
 refine wp_ret ?_
 repeat first | refine then_ret ?_ | refine block_ret ?_
 exact bodyPost_ret (by kernel_rfl) rfl ⟨rfl, h5.old.old⟩
theorem text_n (z : Int) (hz : z < 0) (S : ByteArray) (w : World) :
  Calls Tryz.prog 17 #[.agg #[.int .i64 z, .string S]] w fun e w' => e = .returned (.string (S.extract 0 (min S.size 60))) ∧ Below w.heap.size w w' := by
 have H0 := HA.start w
 go_enter Tryz.func17, Tryz.ntmps17
 refine zsr ?_
 refine wl_make (c := #[.int .i64 z, .string S]) H0 54 ?_
 intro q1 w2 (h3 : HA (bs w) [(q1, 54, #[.int .i64 z, .string S])] w2)
 refine zwv (.string ({ data := #[] })) ?_
 refine znt ?_
 refine wp_seq ?_
 refine zsr ?_
 refine zwv (.pointer (some ⟨q1, 0, none⟩)) ?_
 refine zwu (v := .int .i64 z) (run_load1 Tryz.isAgg3 (((h3.get 0 rfl).cell 0).trans rfl)) ?_
 refine zwu (v := .bool false) (run_geqz (by kernel_rfl) (by kernel_rfl) hz) ?_
 refine znt ?_
 refine zcf ?_
 refine wp_skip ?_
 refine then_at rfl ?_
 refine zsr ?_
 refine zwv (.pointer (some ⟨q1, 1, none⟩)) ?_
 refine zwu (v := .string S) (run_load1 Tryz.isAgg9 (((h3.get 0 rfl).cell 1).trans rfl)) ?_
 refine zwv (.pointer (some ⟨q1, 1, none⟩)) ?_
 refine zwu (v := .string S) (run_load1 Tryz.isAgg9 (((h3.get 0 rfl).cell 1).trans rfl)) ?_
 refine zwu (run_len (s := S)) ?_
 refine zwu (run_min (i := S.size) (j := 60)) ?_
 refine zwu (v := .string (S.extract 0 (min S.size 60))) (run_cut_hi (s := S) (b := min S.size 60) (by omega)) ?_
 refine zwv (.string (S.extract 0 (min S.size 60))) ?_
 refine znt ?_
 refine wp_ret ?_
 repeat first | refine then_ret ?_ | refine block_ret ?_
 exact bodyPost_ret (by kernel_rfl) rfl ⟨rfl, h3.old.old⟩
theorem text_any (z : Int) (S : ByteArray) (w : World) :
  Calls Tryz.prog 17 #[.agg #[.int .i64 z, .string S]] w fun e w' => e = .returned (.string (pcS z S)) ∧ Below w.heap.size w w' := by
 by_cases hz : 0 ≤ z
 ·obtain ⟨n, rfl⟩ := Int.eq_ofNat_of_zero_le hz
  rw [show pcS (n : Int) S = pcT n S by simp [pcS]]
  exact text_y n S w
 ·rw [show pcS z S = S.extract 0 (min S.size 60) by simp [pcS, hz]]
  exact text_n z (by omega) S w
end Go.Proofs.YtihfeoanognonaaGreat
