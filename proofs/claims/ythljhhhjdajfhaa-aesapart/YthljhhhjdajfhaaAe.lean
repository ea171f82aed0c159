/-
  No two blocks are enciphered to one.
-/
import Derived.Test.YthljhhhjdajfhaaAb
import Derived.Test.YthljhhhjdajfhaaAd
namespace Go.Proofs.Ythljhhhjdajfhaa
open Go.RowKit


theorem run_eqbb {ρ : Operand → Value} {x y : Operand} (p q : Bool) {w : World} {dst : Option Tmp} {ty : TypeId} {pos : String} {aft : Array Edge} {gd : Option (Nat × Bool)} (hx : ρ x = .bool p) (hy : ρ y = .bool q) :
    (execOp ρ ⟨dst, .binOp .eql 4 x y 4, ty, pos, aft, gd⟩).run Try.prog w = .ok (.value (.bool (p == q))) w := by
  simp only [execOp, hx, hy]
  cases p <;> cases q <;> go_simp

set_option linter.unusedVariables false in
set_option maxRecDepth 100000 in
set_option maxHeartbeats 2000000 in
theorem apart_any (key x y : ByteArray) (w : World) :
    Calls Try.prog 6 #[.string key, .string x, .string y] w fun e w' => e = .returned (.bool true) ∧ Below w.heap.size w w' := by
  have H0 := HA.start w
  go_enter Try.func6, Try.ntmps6
  refine wp_seq ?_
  -- region 0
  refine wl_region ?_
  refine wl_val (.bool false) (by kernel_rfl) (by kernel_rfl) ?_
  refine wl_nil ?_
  refine then_at (F := ⟨(.string key :: .string x :: .string y :: un :: un :: un :: .bool false :: List.replicate 45 un).toArray, []⟩) (by kernel_rfl) ?_
  refine wp_seq ?_
  -- region 1
  refine wl_region ?_
  refine wl_val (.string key) (by kernel_rfl) (by kernel_rfl) ?_
  refine wl_call (v := .string (brS key 32)) H0 (by kernel_rfl) enter13 #[.string key, iN .i64 32] (by kernel_rfl) (brought_any key 32 (by decide) w) ?_
  intro w1 h2
  refine wl_val (.string (brS key 32)) (by kernel_rfl) (by kernel_rfl) ?_
  refine wl_nil ?_
  refine then_at (F := ⟨(.string (brS key 32) :: .string x :: .string y :: un :: un :: un :: .bool false :: un :: un :: un :: un :: .string key :: .string (brS key 32) :: List.replicate 39 un).toArray, []⟩) (by kernel_rfl) ?_
  refine wp_seq ?_
  -- region 2
  refine wl_region ?_
  refine wl_val (.string x) (by kernel_rfl) (by kernel_rfl) ?_
  refine wl_call (v := .string (brS x 16)) h2 (by kernel_rfl) enter13 #[.string x, iN .i64 16] (by kernel_rfl) (brought_any x 16 (by decide) w1) ?_
  intro w3 h4
  refine wl_val (.string (brS x 16)) (by kernel_rfl) (by kernel_rfl) ?_
  refine wl_nil ?_
  refine then_at (F := ⟨(.string (brS key 32) :: .string (brS x 16) :: .string y :: un :: un :: un :: .bool false :: un :: un :: un :: un :: .string key :: .string (brS key 32) :: .string x :: .string (brS x 16) :: List.replicate 37 un).toArray, []⟩) (by kernel_rfl) ?_
  refine wp_seq ?_
  -- region 3
  refine wl_region ?_
  refine wl_val (.string y) (by kernel_rfl) (by kernel_rfl) ?_
  refine wl_call (v := .string (brS y 16)) h4 (by kernel_rfl) enter13 #[.string y, iN .i64 16] (by kernel_rfl) (brought_any y 16 (by decide) w3) ?_
  intro w5 h6
  refine wl_val (.string (brS y 16)) (by kernel_rfl) (by kernel_rfl) ?_
  refine wl_nil ?_
  refine then_at (F := ⟨(.string (brS key 32) :: .string (brS x 16) :: .string (brS y 16) :: un :: un :: un :: .bool false :: un :: un :: un :: un :: .string key :: .string (brS key 32) :: .string x :: .string (brS x 16) :: .string y :: .string (brS y 16) :: List.replicate 35 un).toArray, []⟩) (by kernel_rfl) ?_
  refine wp_seq ?_
  -- region 4
  refine wl_region ?_
  refine wl_val (.string (brS key 32)) (by kernel_rfl) (by kernel_rfl) ?_
  refine wl_val (.string (brS x 16)) (by kernel_rfl) (by kernel_rfl) ?_
  refine wl_call (v := .tuple #[.string (blkS (brS key 32) (brS x 16)), iN .i64 0]) h6 (by kernel_rfl) enter8 #[.string (brS key 32), .string (brS x 16)] (by kernel_rfl) (Block_yes (brS key 32) (brS x 16) (brS_size key 32) (brS_size _ 16) w5) ?_
  intro w7 h8
  refine wl_val (.tuple #[.string (blkS (brS key 32) (brS x 16)), iN .i64 0]) (by kernel_rfl) (by kernel_rfl) ?_
  refine wl_val (.string (blkS (brS key 32) (brS x 16))) (by kernel_rfl) (by kernel_rfl) ?_
  refine wl_val (iN .i64 0) (by kernel_rfl) (by kernel_rfl) ?_
  refine wl_val (.string (blkS (brS key 32) (brS x 16))) (by kernel_rfl) (by kernel_rfl) ?_
  refine wl_val (iN .i64 0) (by kernel_rfl) (by kernel_rfl) ?_
  refine wl_nil ?_
  refine then_at (F := ⟨(.string (brS key 32) :: .string (brS x 16) :: .string (brS y 16) :: un :: un :: un :: .bool false :: .string (blkS (brS key 32) (brS x 16)) :: iN .i64 0 :: un :: un :: .string key :: .string (brS key 32) :: .string x :: .string (brS x 16) :: .string y :: .string (brS y 16) :: .tuple #[.string (blkS (brS key 32) (brS x 16)), iN .i64 0] :: .string (brS key 32) :: .string (brS x 16) :: .tuple #[.string (blkS (brS key 32) (brS x 16)), iN .i64 0] :: .string (blkS (brS key 32) (brS x 16)) :: iN .i64 0 :: List.replicate 29 un).toArray, []⟩) (by kernel_rfl) ?_
  refine wp_seq ?_
  -- region 5
  refine wl_region ?_
  refine wl_val (.string (brS key 32)) (by kernel_rfl) (by kernel_rfl) ?_
  refine wl_val (.string (brS y 16)) (by kernel_rfl) (by kernel_rfl) ?_
  refine wl_call (v := .tuple #[.string (blkS (brS key 32) (brS y 16)), iN .i64 0]) h8 (by kernel_rfl) enter8 #[.string (brS key 32), .string (brS y 16)] (by kernel_rfl) (Block_yes (brS key 32) (brS y 16) (brS_size key 32) (brS_size _ 16) w7) ?_
  intro w9 h10
  refine wl_val (.tuple #[.string (blkS (brS key 32) (brS y 16)), iN .i64 0]) (by kernel_rfl) (by kernel_rfl) ?_
  refine wl_val (.string (blkS (brS key 32) (brS y 16))) (by kernel_rfl) (by kernel_rfl) ?_
  refine wl_val (iN .i64 0) (by kernel_rfl) (by kernel_rfl) ?_
  refine wl_val (.string (blkS (brS key 32) (brS y 16))) (by kernel_rfl) (by kernel_rfl) ?_
  refine wl_val (iN .i64 0) (by kernel_rfl) (by kernel_rfl) ?_
  refine wl_nil ?_
  refine then_at (F := ⟨(.string (brS key 32) :: .string (brS x 16) :: .string (brS y 16) :: un :: un :: un :: .bool false :: .string (blkS (brS key 32) (brS x 16)) :: iN .i64 0 :: .string (blkS (brS key 32) (brS y 16)) :: iN .i64 0 :: .string key :: .string (brS key 32) :: .string x :: .string (brS x 16) :: .string y :: .string (brS y 16) :: .tuple #[.string (blkS (brS key 32) (brS x 16)), iN .i64 0] :: .string (brS key 32) :: .string (brS x 16) :: .tuple #[.string (blkS (brS key 32) (brS x 16)), iN .i64 0] :: .string (blkS (brS key 32) (brS x 16)) :: iN .i64 0 :: .tuple #[.string (blkS (brS key 32) (brS y 16)), iN .i64 0] :: .string (brS key 32) :: .string (brS y 16) :: .tuple #[.string (blkS (brS key 32) (brS y 16)), iN .i64 0] :: .string (blkS (brS key 32) (brS y 16)) :: iN .i64 0 :: List.replicate 23 un).toArray, []⟩) (by kernel_rfl) ?_
  refine wp_seq ?_
  by_cases hc : brS x 16 = brS y 16
  · have he : blkS (brS key 32) (brS x 16) = blkS (brS key 32) (brS y 16) := by rw [hc]
    -- region 6
    refine wl_region ?_
    refine wl_val (iN .i64 0) (by kernel_rfl) (by kernel_rfl) ?_
    refine wl_val (.bool true) (by kernel_rfl) (run_eqi (k := .i64) (a := 0) (b := 0) (by kernel_rfl) (by kernel_rfl) true (by decide)) ?_
    refine wl_val (.bool true) (by kernel_rfl) (by kernel_rfl) ?_
    refine wl_val (iN .i64 0) (by kernel_rfl) (by kernel_rfl) ?_
    refine wl_val (.bool true) (by kernel_rfl) (run_eqi (k := .i64) (a := 0) (b := 0) (by kernel_rfl) (by kernel_rfl) true (by decide)) ?_
    refine wl_val (.bool true) (by kernel_rfl) (by kernel_rfl) ?_
    refine wl_val (.bool true) (by kernel_rfl) (by kernel_rfl) ?_
    refine wl_val (.string (blkS (brS key 32) (brS x 16))) (by kernel_rfl) (by kernel_rfl) ?_
    refine wl_val (.string (blkS (brS key 32) (brS y 16))) (by kernel_rfl) (by kernel_rfl) ?_
    refine wl_val (.bool true) (by kernel_rfl) (run_eqs (s := blkS (brS key 32) (brS x 16)) (t := blkS (brS key 32) (brS y 16)) (by kernel_rfl) (by kernel_rfl) true (decide_eq_true he)) ?_
    refine wl_val (.string (brS x 16)) (by kernel_rfl) (by kernel_rfl) ?_
    refine wl_val (.string (brS y 16)) (by kernel_rfl) (by kernel_rfl) ?_
    refine wl_val (.bool true) (by kernel_rfl) (run_eqs (s := brS x 16) (t := brS y 16) (by kernel_rfl) (by kernel_rfl) true (decide_eq_true hc)) ?_
    refine wl_val (.bool true) (by kernel_rfl) (run_eqbb true true (by kernel_rfl) (by kernel_rfl)) ?_
    refine wl_val (.bool true) (by kernel_rfl) (by kernel_rfl) ?_
    refine wl_val (.bool true) (by kernel_rfl) (by kernel_rfl) ?_
    refine wl_val (.string (blkS (brS key 32) (brS x 16))) (by kernel_rfl) (by kernel_rfl) ?_
    refine wl_val (iN .i64 ((blkS (brS key 32) (brS x 16)).size)) (by kernel_rfl) (run_len (s := blkS (brS key 32) (brS x 16)) (by kernel_rfl)) ?_
    refine wl_val (.bool true) (by kernel_rfl) (run_eqi (k := .i64) (a := (blkS (brS key 32) (brS x 16)).size) (b := 16) (by kernel_rfl) (by kernel_rfl) true (decide_eq_true (blkS_size _ _))) ?_
    refine wl_val (.bool true) (by kernel_rfl) (by kernel_rfl) ?_
    refine wl_val (.bool true) (by kernel_rfl) (by kernel_rfl) ?_
    refine wl_call (v := .bool true) h10 (by kernel_rfl) enter10 #[] (by kernel_rfl) (works_any w9) ?_
    intro w11 h12
    refine wl_val (.bool true) (by kernel_rfl) (by kernel_rfl) ?_
    refine wl_val (.bool true) (by kernel_rfl) (by kernel_rfl) ?_
    refine wl_nil ?_
    refine then_at (F := ⟨(.string (brS key 32) :: .string (brS x 16) :: .string (brS y 16) :: un :: un :: un :: .bool true :: .string (blkS (brS key 32) (brS x 16)) :: iN .i64 0 :: .string (blkS (brS key 32) (brS y 16)) :: iN .i64 0 :: .string key :: .string (brS key 32) :: .string x :: .string (brS x 16) :: .string y :: .string (brS y 16) :: .tuple #[.string (blkS (brS key 32) (brS x 16)), iN .i64 0] :: .string (brS key 32) :: .string (brS x 16) :: .tuple #[.string (blkS (brS key 32) (brS x 16)), iN .i64 0] :: .string (blkS (brS key 32) (brS x 16)) :: iN .i64 0 :: .tuple #[.string (blkS (brS key 32) (brS y 16)), iN .i64 0] :: .string (brS key 32) :: .string (brS y 16) :: .tuple #[.string (blkS (brS key 32) (brS y 16)), iN .i64 0] :: .string (blkS (brS key 32) (brS y 16)) :: iN .i64 0 :: iN .i64 0 :: .bool true :: .bool true :: iN .i64 0 :: .bool true :: .bool true :: .bool true :: .string (blkS (brS key 32) (brS x 16)) :: .string (blkS (brS key 32) (brS y 16)) :: .bool true :: .string (brS x 16) :: .string (brS y 16) :: .bool true :: .bool true :: .bool true :: .bool true :: .string (blkS (brS key 32) (brS x 16)) :: iN .i64 ((blkS (brS key 32) (brS x 16)).size) :: .bool true :: .bool true :: .bool true :: .bool true :: .bool true :: List.replicate 0 un).toArray, []⟩) (by kernel_rfl) ?_
    refine wp_ret ?_
    repeat first | refine then_ret ?_ | refine block_ret ?_
    exact bodyPost_ret (v := .bool true) (by kernel_rfl) rfl ⟨rfl, h12.old⟩
  · have he : ¬ blkS (brS key 32) (brS x 16) = blkS (brS key 32) (brS y 16) := fun h => hc (blkS_inj (brS_size x 16) (brS_size y 16) h)
    -- region 6
    refine wl_region ?_
    refine wl_val (iN .i64 0) (by kernel_rfl) (by kernel_rfl) ?_
    refine wl_val (.bool true) (by kernel_rfl) (run_eqi (k := .i64) (a := 0) (b := 0) (by kernel_rfl) (by kernel_rfl) true (by decide)) ?_
    refine wl_val (.bool true) (by kernel_rfl) (by kernel_rfl) ?_
    refine wl_val (iN .i64 0) (by kernel_rfl) (by kernel_rfl) ?_
    refine wl_val (.bool true) (by kernel_rfl) (run_eqi (k := .i64) (a := 0) (b := 0) (by kernel_rfl) (by kernel_rfl) true (by decide)) ?_
    refine wl_val (.bool true) (by kernel_rfl) (by kernel_rfl) ?_
    refine wl_val (.bool true) (by kernel_rfl) (by kernel_rfl) ?_
    refine wl_val (.string (blkS (brS key 32) (brS x 16))) (by kernel_rfl) (by kernel_rfl) ?_
    refine wl_val (.string (blkS (brS key 32) (brS y 16))) (by kernel_rfl) (by kernel_rfl) ?_
    refine wl_val (.bool false) (by kernel_rfl) (run_eqs (s := blkS (brS key 32) (brS x 16)) (t := blkS (brS key 32) (brS y 16)) (by kernel_rfl) (by kernel_rfl) false (decide_eq_false he)) ?_
    refine wl_val (.string (brS x 16)) (by kernel_rfl) (by kernel_rfl) ?_
    refine wl_val (.string (brS y 16)) (by kernel_rfl) (by kernel_rfl) ?_
    refine wl_val (.bool false) (by kernel_rfl) (run_eqs (s := brS x 16) (t := brS y 16) (by kernel_rfl) (by kernel_rfl) false (decide_eq_false hc)) ?_
    refine wl_val (.bool true) (by kernel_rfl) (run_eqbb false false (by kernel_rfl) (by kernel_rfl)) ?_
    refine wl_val (.bool true) (by kernel_rfl) (by kernel_rfl) ?_
    refine wl_val (.bool true) (by kernel_rfl) (by kernel_rfl) ?_
    refine wl_val (.string (blkS (brS key 32) (brS x 16))) (by kernel_rfl) (by kernel_rfl) ?_
    refine wl_val (iN .i64 ((blkS (brS key 32) (brS x 16)).size)) (by kernel_rfl) (run_len (s := blkS (brS key 32) (brS x 16)) (by kernel_rfl)) ?_
    refine wl_val (.bool true) (by kernel_rfl) (run_eqi (k := .i64) (a := (blkS (brS key 32) (brS x 16)).size) (b := 16) (by kernel_rfl) (by kernel_rfl) true (decide_eq_true (blkS_size _ _))) ?_
    refine wl_val (.bool true) (by kernel_rfl) (by kernel_rfl) ?_
    refine wl_val (.bool true) (by kernel_rfl) (by kernel_rfl) ?_
    refine wl_call (v := .bool true) h10 (by kernel_rfl) enter10 #[] (by kernel_rfl) (works_any w9) ?_
    intro w13 h14
    refine wl_val (.bool true) (by kernel_rfl) (by kernel_rfl) ?_
    refine wl_val (.bool true) (by kernel_rfl) (by kernel_rfl) ?_
    refine wl_nil ?_
    refine then_at (F := ⟨(.string (brS key 32) :: .string (brS x 16) :: .string (brS y 16) :: un :: un :: un :: .bool true :: .string (blkS (brS key 32) (brS x 16)) :: iN .i64 0 :: .string (blkS (brS key 32) (brS y 16)) :: iN .i64 0 :: .string key :: .string (brS key 32) :: .string x :: .string (brS x 16) :: .string y :: .string (brS y 16) :: .tuple #[.string (blkS (brS key 32) (brS x 16)), iN .i64 0] :: .string (brS key 32) :: .string (brS x 16) :: .tuple #[.string (blkS (brS key 32) (brS x 16)), iN .i64 0] :: .string (blkS (brS key 32) (brS x 16)) :: iN .i64 0 :: .tuple #[.string (blkS (brS key 32) (brS y 16)), iN .i64 0] :: .string (brS key 32) :: .string (brS y 16) :: .tuple #[.string (blkS (brS key 32) (brS y 16)), iN .i64 0] :: .string (blkS (brS key 32) (brS y 16)) :: iN .i64 0 :: iN .i64 0 :: .bool true :: .bool true :: iN .i64 0 :: .bool true :: .bool true :: .bool true :: .string (blkS (brS key 32) (brS x 16)) :: .string (blkS (brS key 32) (brS y 16)) :: .bool false :: .string (brS x 16) :: .string (brS y 16) :: .bool false :: .bool true :: .bool true :: .bool true :: .string (blkS (brS key 32) (brS x 16)) :: iN .i64 ((blkS (brS key 32) (brS x 16)).size) :: .bool true :: .bool true :: .bool true :: .bool true :: .bool true :: List.replicate 0 un).toArray, []⟩) (by kernel_rfl) ?_
    refine wp_ret ?_
    repeat first | refine then_ret ?_ | refine block_ret ?_
    exact bodyPost_ret (v := .bool true) (by kernel_rfl) rfl ⟨rfl, h14.old⟩
end Go.Proofs.Ythljhhhjdajfhaa
