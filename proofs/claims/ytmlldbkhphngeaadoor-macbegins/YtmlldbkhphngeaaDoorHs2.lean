/-
  a block's words.
-/
import Derived.Test.YtmlldbkhphngeaaDoorHs1
namespace Go.Proofs.YtmlldbkhphngeaaDoor
open Go.RowKit


section
variable {ρ : Operand → Value} {x y : Operand} {w : World} {dst : Option Tmp} {T T2 ty : TypeId} {pos : String} {aft : Array Edge} {gd : Option (Nat × Bool)}
theorem run_cutn {z : Operand} {q m c a b n : Nat} (hx : ρ x = .slice (some ⟨q, 0, none⟩) m c) (hz : ρ z = iN .i64 a) (hy : ρ y = iN .i64 b) (ha : a ≤ b) (hb : b ≤ c) (hac : a < c) (hn : b - a = n) : (execOp ρ ⟨dst, .slice 31 x (some z) (some y) none, ty, pos, aft, gd⟩).run Tryd.prog w = .ok (.value (.slice (some ⟨q, a, none⟩) n (c - a))) w := by
  rw [← hn]; exact run_cutb hx hz hy ha hb hac
end
/-- a word's bytes so far -/
def segP (w : Nat) (blk : List UInt8) (a j : Nat) : BitVec w := wordP w ((blk.drop a).take j)
theorem seg_step (w : Nat) (blk : List UInt8) (a j : Nat) (h : a + j < blk.length) : segP w blk a (j + 1) = (segP w blk a j <<< 8) ||| BitVec.ofNat w (blk.getD (a + j) 0).toNat := by
  unfold segP wordP
  have h2 : j < (blk.drop a).length := by rw [List.length_drop]; omega
  rw [List.take_succ_eq_append_getElem h2, List.foldl_append, List.getElem_drop, List.getD_eq_getElem?_getD, List.getElem?_eq_getElem h]
  rfl

theorem in_startS (blk : List UInt8) (i : Nat) (hi : i < 16) : firstP 32 4 blk i ++ List.replicate (80 - i) 0 = (firstP 32 4 blk i ++ [segP 32 blk (i * 4) 0]) ++ List.replicate (80 - (i + 1)) 0 := by
  rw [show 80 - i = (80 - (i + 1)) + 1 by omega, List.replicate_succ, List.append_assoc]
  rfl
theorem fst_lenS (blk : List UInt8) (i : Nat) (hi : i ≤ 16) : (firstP 32 4 blk i ++ List.replicate (80 - i) 0).length = 80 := by rw [pad_len, firstP_len]; omega
theorem in_lenS (blk : List UInt8) (i j : Nat) (hi : i < 16) : ((firstP 32 4 blk i ++ [segP 32 blk (i * 4) j]) ++ List.replicate (80 - (i + 1)) 0).length = 80 := by rw [pad_len, List.length_append, firstP_len]; simp; omega
theorem sch_lenS (blk : List UInt8) (i : Nat) (hi : i ≤ 48) : (schP KS blk i ++ List.replicate (64 - i) 0).length = 80 := by rw [pad_len, schP_len]; omega
theorem spr_eqS (blk : List UInt8) : schP KS blk 48 ++ List.replicate (64 - 48) 0 = sprP KS blk := rfl
theorem spr_lenS (blk : List UInt8) : (sprP KS blk).length = 80 := sch_lenS blk 48 (by decide)

set_option linter.unusedVariables false in
set_option maxRecDepth 100000 in
set_option maxHeartbeats 2000000 in
theorem sprS (blk : List UInt8) (hl : blk.length = 64) (qb : Nat) (w : World) (hb : Blk w qb 5 (bc blk)) :
    Calls Tryd.prog 37 #[.agg kcS, .slice (some ⟨qb, 0, none⟩) 64 64] w fun e w' => e = .returned (.agg (wc .u32 (sprP KS blk))) ∧ Below w.heap.size w w' := by
  have H0 := HA.start w
  go_enter Tryd.func37, Tryd.ntmps37
  refine wp_seq ?_
  -- region 0
  refine wl_region ?_
  refine wl_make H0 52 (by kernel_rfl) (run_box36 (c := kcS) (by kernel_rfl)) ?_
  intro q1 w2 h3
  refine wl_make h3 66 (by kernel_rfl) run_alloc56 ?_
  intro q4 w5 h6
  refine wl_nil ?_
  refine then_at (F := ⟨(.agg kcS :: .slice (some ⟨qb, 0, none⟩) 64 64 :: pt q1 :: un :: pt q4 :: List.replicate 80 un).toArray, []⟩) (by kernel_rfl) ?_
  refine wp_seq ?_
  -- region 1
  refine wl_region ?_
  refine wl_make h6 66 (by kernel_rfl) run_alloc56 ?_
  intro q7 w8 h9
  refine wl_nil ?_
  refine then_at (F := ⟨(.agg kcS :: .slice (some ⟨qb, 0, none⟩) 64 64 :: pt q1 :: un :: pt q4 :: pt q7 :: List.replicate 79 un).toArray, []⟩) (by kernel_rfl) ?_
  refine wp_seq ?_
  -- region 2
  refine wl_region ?_
  refine wl_val (.pointer (some ⟨q1, 1, none⟩)) (by kernel_rfl) (by kernel_rfl) ?_
  refine wl_val (iN .i64 64) (by kernel_rfl) (run_load1 (fun w => Tryd.isAgg3 w) (by kernel_rfl) (((h9.get 2 rfl).cell 1).trans (by kernel_rfl))) ?_
  refine wl_val (iN .i64 4) (by kernel_rfl) (run_quo (k := .i64) (a := 64) (b := 16) (by kernel_rfl) (by kernel_rfl) (by decide) (by decide)) ?_
  refine wl_val (iN .i64 4) (by kernel_rfl) (by kernel_rfl) ?_
  refine wl_nil ?_
  refine then_at (F := ⟨(.agg kcS :: .slice (some ⟨qb, 0, none⟩) 64 64 :: pt q1 :: un :: pt q4 :: pt q7 :: iN .i64 4 :: un :: un :: un :: un :: un :: un :: un :: .pointer (some ⟨q1, 1, none⟩) :: iN .i64 64 :: iN .i64 4 :: List.replicate 68 un).toArray, []⟩) (by kernel_rfl) ?_
  refine wp_seq ?_
  refine wp_seq ?_
  -- region 3
  refine wl_region ?_
  refine wl_val (iN .i64 0) (by kernel_rfl) (by kernel_rfl) ?_
  refine wl_nil ?_
  refine then_at (F := ⟨(.agg kcS :: .slice (some ⟨qb, 0, none⟩) 64 64 :: pt q1 :: un :: pt q4 :: pt q7 :: iN .i64 4 :: un :: un :: un :: un :: un :: un :: un :: .pointer (some ⟨q1, 1, none⟩) :: iN .i64 64 :: iN .i64 4 :: iN .i64 0 :: List.replicate 67 un).toArray, []⟩) (by kernel_rfl) ?_
  refine wp_block ?_
  refine wp_count (fun k A w' => ∃ u10 : Nat → Value, A = ⟨(.agg kcS :: .slice (some ⟨qb, 0, none⟩) 64 64 :: pt q1 :: un :: pt q4 :: pt q7 :: iN .i64 4 :: u10 7 :: un :: u10 9 :: un :: un :: un :: un :: .pointer (some ⟨q1, 1, none⟩) :: iN .i64 64 :: iN .i64 4 :: iN .i64 k :: u10 18 :: u10 19 :: u10 20 :: u10 21 :: u10 22 :: u10 23 :: u10 24 :: u10 25 :: u10 26 :: u10 27 :: u10 28 :: u10 29 :: u10 30 :: u10 31 :: u10 32 :: u10 33 :: u10 34 :: u10 35 :: u10 36 :: u10 37 :: u10 38 :: u10 39 :: u10 40 :: u10 41 :: u10 42 :: u10 43 :: u10 44 :: List.replicate 40 un).toArray, []⟩ ∧ HA w [(q7, 66, wc .u32 (firstP 32 4 blk k ++ List.replicate (80 - k) 0)), (q4, 66, wc .u32 (List.replicate 80 (0 : BitVec 32))), (q1, 52, kcS)] w') 16 ?_ ?_ ?_
  · exact ⟨fun ii => (([(7, undef), (9, undef), (18, undef), (19, undef), (20, undef), (21, undef), (22, undef), (23, undef), (24, undef), (25, undef), (26, undef), (27, undef), (28, undef), (29, undef), (30, undef), (31, undef), (32, undef), (33, undef), (34, undef), (35, undef), (36, undef), (37, undef), (38, undef), (39, undef), (40, undef), (41, undef), (42, undef), (43, undef), (44, undef)] : List (Nat × Value)).find? (·.1 == ii)).elim undef (·.2), by kernel_rfl, h9⟩
  · rintro k hk _ w11 ⟨u10, rfl, h12⟩
    refine wp_seq ?_
    -- region 4
    refine wl_region ?_
    refine wl_val (.bool true) (by kernel_rfl) (run_lss (k := .i64) (a := k) (b := 16) (by kernel_rfl) (by kernel_rfl) true (decide_eq_true hk)) ?_
    refine wl_nil ?_
    refine then_at (F := ⟨(.agg kcS :: .slice (some ⟨qb, 0, none⟩) 64 64 :: pt q1 :: un :: pt q4 :: pt q7 :: iN .i64 4 :: u10 7 :: un :: u10 9 :: un :: un :: un :: un :: .pointer (some ⟨q1, 1, none⟩) :: iN .i64 64 :: iN .i64 4 :: iN .i64 k :: .bool true :: u10 19 :: u10 20 :: u10 21 :: u10 22 :: u10 23 :: u10 24 :: u10 25 :: u10 26 :: u10 27 :: u10 28 :: u10 29 :: u10 30 :: u10 31 :: u10 32 :: u10 33 :: u10 34 :: u10 35 :: u10 36 :: u10 37 :: u10 38 :: u10 39 :: u10 40 :: u10 41 :: u10 42 :: u10 43 :: u10 44 :: List.replicate 40 un).toArray, []⟩) (by kernel_rfl) ?_
    refine wp_seq ?_
    refine wp_cond_true (by kernel_rfl) ?_
    refine wp_skip ?_
    refine then_at (F := ⟨(.agg kcS :: .slice (some ⟨qb, 0, none⟩) 64 64 :: pt q1 :: un :: pt q4 :: pt q7 :: iN .i64 4 :: u10 7 :: un :: u10 9 :: un :: un :: un :: un :: .pointer (some ⟨q1, 1, none⟩) :: iN .i64 64 :: iN .i64 4 :: iN .i64 k :: .bool true :: u10 19 :: u10 20 :: u10 21 :: u10 22 :: u10 23 :: u10 24 :: u10 25 :: u10 26 :: u10 27 :: u10 28 :: u10 29 :: u10 30 :: u10 31 :: u10 32 :: u10 33 :: u10 34 :: u10 35 :: u10 36 :: u10 37 :: u10 38 :: u10 39 :: u10 40 :: u10 41 :: u10 42 :: u10 43 :: u10 44 :: List.replicate 40 un).toArray, []⟩) (by kernel_rfl) ?_
    refine wp_seq ?_
    refine wp_block ?_
    refine wp_seq ?_
    -- region 5
    refine wl_region ?_
    refine wl_val (iN .i64 k) (by kernel_rfl) (by kernel_rfl) ?_
    refine wl_val (iN .i64 k) (by kernel_rfl) (by kernel_rfl) ?_
    refine wl_nil ?_
    refine then_at (F := ⟨(.agg kcS :: .slice (some ⟨qb, 0, none⟩) 64 64 :: pt q1 :: un :: pt q4 :: pt q7 :: iN .i64 4 :: iN .i64 k :: un :: u10 9 :: un :: un :: un :: un :: .pointer (some ⟨q1, 1, none⟩) :: iN .i64 64 :: iN .i64 4 :: iN .i64 k :: .bool true :: iN .i64 k :: u10 20 :: u10 21 :: u10 22 :: u10 23 :: u10 24 :: u10 25 :: u10 26 :: u10 27 :: u10 28 :: u10 29 :: u10 30 :: u10 31 :: u10 32 :: u10 33 :: u10 34 :: u10 35 :: u10 36 :: u10 37 :: u10 38 :: u10 39 :: u10 40 :: u10 41 :: u10 42 :: u10 43 :: u10 44 :: List.replicate 40 un).toArray, []⟩) (by kernel_rfl) ?_
    refine wp_seq ?_
    -- region 6
    refine wl_region ?_
    refine wl_val (.slice (some ⟨qb, 0, none⟩) 64 64) (by kernel_rfl) (by kernel_rfl) ?_
    refine wl_val (iN .i64 k) (by kernel_rfl) (by kernel_rfl) ?_
    refine wl_val (iN .i64 4) (by kernel_rfl) (by kernel_rfl) ?_
    refine wl_val (iN .i64 (k * 4)) (by kernel_rfl) (run_mul (k := .i64) (a := k) (b := 4) (by kernel_rfl) (by kernel_rfl) (by simp only [top]; omega)) ?_
    refine wl_val (iN .i64 k) (by kernel_rfl) (by kernel_rfl) ?_
    refine wl_val (iN .i64 (k + 1)) (by kernel_rfl) (run_add (k := .i64) (a := k) (b := 1) (by kernel_rfl) (by kernel_rfl) (by simp only [top]; omega)) ?_
    refine wl_val (iN .i64 4) (by kernel_rfl) (by kernel_rfl) ?_
    refine wl_val (iN .i64 ((k + 1) * 4)) (by kernel_rfl) (run_mul (k := .i64) (a := k + 1) (b := 4) (by kernel_rfl) (by kernel_rfl) (by simp only [top]; omega)) ?_
    refine wl_val (.slice (some ⟨qb, k * 4, none⟩) 4 (64 - (k * 4))) (by kernel_rfl) (run_cutn (q := qb) (m := 64) (c := 64) (a := k * 4) (b := (k + 1) * 4) (n := 4) (by kernel_rfl) (by kernel_rfl) (by kernel_rfl) (by omega) (by omega) (by omega) (by omega)) ?_
    refine wl_val (iN .i64 4) (by kernel_rfl) (run_len28 (q := some ⟨qb, k * 4, none⟩) (m := 4) (c := 64 - (k * 4)) (by kernel_rfl)) ?_
    refine wl_val (iN .i64 0) (by kernel_rfl) (by kernel_rfl) ?_
    refine wl_nil ?_
    refine then_at (F := ⟨(.agg kcS :: .slice (some ⟨qb, 0, none⟩) 64 64 :: pt q1 :: un :: pt q4 :: pt q7 :: iN .i64 4 :: iN .i64 k :: un :: u10 9 :: un :: un :: un :: un :: .pointer (some ⟨q1, 1, none⟩) :: iN .i64 64 :: iN .i64 4 :: iN .i64 k :: .bool true :: iN .i64 k :: .slice (some ⟨qb, 0, none⟩) 64 64 :: iN .i64 k :: iN .i64 4 :: iN .i64 (k * 4) :: iN .i64 k :: iN .i64 (k + 1) :: iN .i64 4 :: iN .i64 ((k + 1) * 4) :: .slice (some ⟨qb, k * 4, none⟩) 4 (64 - (k * 4)) :: iN .i64 4 :: iN .i64 0 :: u10 31 :: u10 32 :: u10 33 :: u10 34 :: u10 35 :: u10 36 :: u10 37 :: u10 38 :: u10 39 :: u10 40 :: u10 41 :: u10 42 :: u10 43 :: u10 44 :: List.replicate 40 un).toArray, []⟩) (by kernel_rfl) ?_
    refine wp_block ?_
    refine wp_count (fun j A w' => ∃ u13 : Nat → Value, A = ⟨(.agg kcS :: .slice (some ⟨qb, 0, none⟩) 64 64 :: pt q1 :: un :: pt q4 :: pt q7 :: iN .i64 4 :: iN .i64 k :: un :: u13 9 :: un :: un :: un :: un :: .pointer (some ⟨q1, 1, none⟩) :: iN .i64 64 :: iN .i64 4 :: iN .i64 k :: .bool true :: iN .i64 k :: .slice (some ⟨qb, 0, none⟩) 64 64 :: iN .i64 k :: iN .i64 4 :: iN .i64 (k * 4) :: iN .i64 k :: iN .i64 (k + 1) :: iN .i64 4 :: iN .i64 ((k + 1) * 4) :: .slice (some ⟨qb, k * 4, none⟩) 4 (64 - (k * 4)) :: iN .i64 4 :: iN .i64 j :: u13 31 :: u13 32 :: u13 33 :: u13 34 :: u13 35 :: u13 36 :: u13 37 :: u13 38 :: u13 39 :: u13 40 :: u13 41 :: u13 42 :: u13 43 :: u10 44 :: List.replicate 40 un).toArray, []⟩ ∧ HA w [(q7, 66, wc .u32 ((firstP 32 4 blk k ++ [segP 32 blk (k * 4) j]) ++ List.replicate (80 - (k + 1)) 0)), (q4, 66, wc .u32 (List.replicate 80 (0 : BitVec 32))), (q1, 52, kcS)] w') 4 ?_ ?_ ?_
    · exact ⟨fun ii => (([(9, u10 9), (31, u10 31), (32, u10 32), (33, u10 33), (34, u10 34), (35, u10 35), (36, u10 36), (37, u10 37), (38, u10 38), (39, u10 39), (40, u10 40), (41, u10 41), (42, u10 42), (43, u10 43)] : List (Nat × Value)).find? (·.1 == ii)).elim undef (·.2), by kernel_rfl, (by rw [← in_startS blk k hk]; exact h12)⟩
    · rintro j hj _ w14 ⟨u13, rfl, h15⟩
      refine wp_seq ?_
      -- region 7
      refine wl_region ?_
      refine wl_val (.bool true) (by kernel_rfl) (run_lss (k := .i64) (a := j) (b := 4) (by kernel_rfl) (by kernel_rfl) true (decide_eq_true hj)) ?_
      refine wl_nil ?_
      refine then_at (F := ⟨(.agg kcS :: .slice (some ⟨qb, 0, none⟩) 64 64 :: pt q1 :: un :: pt q4 :: pt q7 :: iN .i64 4 :: iN .i64 k :: un :: u13 9 :: un :: un :: un :: un :: .pointer (some ⟨q1, 1, none⟩) :: iN .i64 64 :: iN .i64 4 :: iN .i64 k :: .bool true :: iN .i64 k :: .slice (some ⟨qb, 0, none⟩) 64 64 :: iN .i64 k :: iN .i64 4 :: iN .i64 (k * 4) :: iN .i64 k :: iN .i64 (k + 1) :: iN .i64 4 :: iN .i64 ((k + 1) * 4) :: .slice (some ⟨qb, k * 4, none⟩) 4 (64 - (k * 4)) :: iN .i64 4 :: iN .i64 j :: .bool true :: u13 32 :: u13 33 :: u13 34 :: u13 35 :: u13 36 :: u13 37 :: u13 38 :: u13 39 :: u13 40 :: u13 41 :: u13 42 :: u13 43 :: u10 44 :: List.replicate 40 un).toArray, []⟩) (by kernel_rfl) ?_
      refine wp_seq ?_
      refine wp_cond_true (by kernel_rfl) ?_
      refine wp_skip ?_
      refine then_at (F := ⟨(.agg kcS :: .slice (some ⟨qb, 0, none⟩) 64 64 :: pt q1 :: un :: pt q4 :: pt q7 :: iN .i64 4 :: iN .i64 k :: un :: u13 9 :: un :: un :: un :: un :: .pointer (some ⟨q1, 1, none⟩) :: iN .i64 64 :: iN .i64 4 :: iN .i64 k :: .bool true :: iN .i64 k :: .slice (some ⟨qb, 0, none⟩) 64 64 :: iN .i64 k :: iN .i64 4 :: iN .i64 (k * 4) :: iN .i64 k :: iN .i64 (k + 1) :: iN .i64 4 :: iN .i64 ((k + 1) * 4) :: .slice (some ⟨qb, k * 4, none⟩) 4 (64 - (k * 4)) :: iN .i64 4 :: iN .i64 j :: .bool true :: u13 32 :: u13 33 :: u13 34 :: u13 35 :: u13 36 :: u13 37 :: u13 38 :: u13 39 :: u13 40 :: u13 41 :: u13 42 :: u13 43 :: u10 44 :: List.replicate 40 un).toArray, []⟩) (by kernel_rfl) ?_
      refine wp_seq ?_
      refine wp_block ?_
      refine wp_seq ?_
      -- region 8
      refine wl_region ?_
      refine wl_val (.pointer (some ⟨qb, k * 4 + j, none⟩)) (by kernel_rfl) (run_addr_part (q := qb) (o := k * 4) (m := 4) (c := 64 - (k * 4)) (i := j) (by kernel_rfl) (by kernel_rfl) (by omega)) ?_
      refine wl_val (by8 (blk.getD (k * 4 + j) 0)) (by kernel_rfl) (run_load1 (fun w => Tryd.isAgg5 w) (by kernel_rfl) (((hb.keep h15.old).cell (k * 4 + j)).trans (bc_get blk (k * 4 + j) (by rw [hl]; omega)))) ?_
      refine wl_val (by8 (blk.getD (k * 4 + j) 0)) (by kernel_rfl) (by kernel_rfl) ?_
      refine wl_nil ?_
      refine then_at (F := ⟨(.agg kcS :: .slice (some ⟨qb, 0, none⟩) 64 64 :: pt q1 :: un :: pt q4 :: pt q7 :: iN .i64 4 :: iN .i64 k :: un :: by8 (blk.getD (k * 4 + j) 0) :: un :: un :: un :: un :: .pointer (some ⟨q1, 1, none⟩) :: iN .i64 64 :: iN .i64 4 :: iN .i64 k :: .bool true :: iN .i64 k :: .slice (some ⟨qb, 0, none⟩) 64 64 :: iN .i64 k :: iN .i64 4 :: iN .i64 (k * 4) :: iN .i64 k :: iN .i64 (k + 1) :: iN .i64 4 :: iN .i64 ((k + 1) * 4) :: .slice (some ⟨qb, k * 4, none⟩) 4 (64 - (k * 4)) :: iN .i64 4 :: iN .i64 j :: .bool true :: .pointer (some ⟨qb, k * 4 + j, none⟩) :: by8 (blk.getD (k * 4 + j) 0) :: u13 34 :: u13 35 :: u13 36 :: u13 37 :: u13 38 :: u13 39 :: u13 40 :: u13 41 :: u13 42 :: u13 43 :: u10 44 :: List.replicate 40 un).toArray, []⟩) (by kernel_rfl) ?_
      -- region 9
      refine wl_region ?_
      refine wl_val (iN .i64 k) (by kernel_rfl) (by kernel_rfl) ?_
      refine wl_val (iN .i64 k) (by kernel_rfl) (by kernel_rfl) ?_
      refine wl_val (.pointer (some ⟨q7, k, none⟩)) (by kernel_rfl) (run_addr_arr (q := q7) (a := k) Tryd.underlying66 (fun w => Tryd.sizeOf48 w) (by kernel_rfl) (by kernel_rfl) (by omega)) ?_
      refine wl_val (bv .u32 (segP 32 blk (k * 4) j)) (by kernel_rfl) (run_load1 (fun w => Tryd.isAgg48 w) (by kernel_rfl) (((h15.get 0 rfl).cell k).trans (last_get .u32 (firstP 32 4 blk k) _ (80 - (k + 1)) k (firstP_len 32 4 blk k)))) ?_
      refine wl_val (bv .u32 ((segP 32 blk (k * 4) j) <<< 8)) (by kernel_rfl) (run_shlv (k2 := .u64) (m := 8) WK.s (a := segP 32 blk (k * 4) j) (by kernel_rfl) (by kernel_rfl) (by decide)) ?_
      refine wl_val (by8 (blk.getD (k * 4 + j) 0)) (by kernel_rfl) (by kernel_rfl) ?_
      refine wl_val (bv .u32 (BitVec.ofNat 32 (blk.getD (k * 4 + j) 0).toNat)) (by kernel_rfl) (run_wide (u := blk.getD (k * 4 + j) 0) WK.s (by kernel_rfl) Tryd.underlying5 Tryd.underlying48) ?_
      refine wl_val (bv .u32 (((segP 32 blk (k * 4) j) <<< 8) ||| (BitVec.ofNat 32 (blk.getD (k * 4 + j) 0).toNat))) (by kernel_rfl) (run_orv WK.s (a := (segP 32 blk (k * 4) j) <<< 8) (b := BitVec.ofNat 32 (blk.getD (k * 4 + j) 0).toNat) (by kernel_rfl) (by kernel_rfl)) ?_
      refine wl_val (.pointer (some ⟨q7, k, none⟩)) (by kernel_rfl) (run_addr_arr (q := q7) (a := k) Tryd.underlying66 (fun w => Tryd.sizeOf48 w) (by kernel_rfl) (by kernel_rfl) (by omega)) ?_
      refine wl_put (k := .u32) (z := (((((segP 32 blk (k * 4) j) <<< 8) ||| (BitVec.ofNat 32 (blk.getD (k * 4 + j) 0).toNat)).toNat : Nat) : Int)) h15 0 rfl k (by rw [wc_size, (in_lenS blk k j hk)]; omega) (by kernel_rfl) (fun w => Tryd.sizeOf48 w) (by kernel_rfl) (by kernel_rfl) ?_
      intro w16 h17
      have h18 : HA w [(q7, 66, wc .u32 ((firstP 32 4 blk k ++ [segP 32 blk (k * 4) (j + 1)]) ++ List.replicate (80 - (k + 1)) 0)), (q4, 66, wc .u32 (List.replicate 80 (0 : BitVec 32))), (q1, 52, kcS)] w16 := by
        have e : (wc .u32 ((firstP 32 4 blk k ++ [segP 32 blk (k * 4) j]) ++ List.replicate (80 - (k + 1)) 0)).setIfInBounds k (.int .u32 (((((segP 32 blk (k * 4) j) <<< 8) ||| (BitVec.ofNat 32 (blk.getD (k * 4 + j) 0).toNat)).toNat : Nat) : Int)) = wc .u32 ((firstP 32 4 blk k ++ [segP 32 blk (k * 4) (j + 1)]) ++ List.replicate (80 - (k + 1)) 0) := (by rw [seg_step 32 blk (k * 4) j (by omega)]; exact last_put .u32 (firstP 32 4 blk k) _ (((segP 32 blk (k * 4) j) <<< 8) ||| (BitVec.ofNat 32 (blk.getD (k * 4 + j) 0).toNat)) (80 - (k + 1)) k (firstP_len 32 4 blk k))
        rw [← e]; exact h17
      clear h17
      refine wl_nil ?_
      refine block_normal ?_
      refine then_at (F := ⟨(.agg kcS :: .slice (some ⟨qb, 0, none⟩) 64 64 :: pt q1 :: un :: pt q4 :: pt q7 :: iN .i64 4 :: iN .i64 k :: un :: by8 (blk.getD (k * 4 + j) 0) :: un :: un :: un :: un :: .pointer (some ⟨q1, 1, none⟩) :: iN .i64 64 :: iN .i64 4 :: iN .i64 k :: .bool true :: iN .i64 k :: .slice (some ⟨qb, 0, none⟩) 64 64 :: iN .i64 k :: iN .i64 4 :: iN .i64 (k * 4) :: iN .i64 k :: iN .i64 (k + 1) :: iN .i64 4 :: iN .i64 ((k + 1) * 4) :: .slice (some ⟨qb, k * 4, none⟩) 4 (64 - (k * 4)) :: iN .i64 4 :: iN .i64 j :: .bool true :: .pointer (some ⟨qb, k * 4 + j, none⟩) :: by8 (blk.getD (k * 4 + j) 0) :: iN .i64 k :: iN .i64 k :: .pointer (some ⟨q7, k, none⟩) :: bv .u32 (segP 32 blk (k * 4) j) :: bv .u32 ((segP 32 blk (k * 4) j) <<< 8) :: by8 (blk.getD (k * 4 + j) 0) :: bv .u32 (BitVec.ofNat 32 (blk.getD (k * 4 + j) 0).toNat) :: bv .u32 (((segP 32 blk (k * 4) j) <<< 8) ||| (BitVec.ofNat 32 (blk.getD (k * 4 + j) 0).toNat)) :: .pointer (some ⟨q7, k, none⟩) :: u13 43 :: u10 44 :: List.replicate 40 un).toArray, []⟩) (by kernel_rfl) ?_
      -- region 10
      refine wl_region ?_
      refine wl_val (iN .i64 (j + 1)) (by kernel_rfl) (run_add (k := .i64) (a := j) (b := 1) (by kernel_rfl) (by kernel_rfl) (by simp only [top]; omega)) ?_
      refine wl_val (iN .i64 (j + 1)) (by kernel_rfl) (by kernel_rfl) ?_
      refine wl_nil ?_
      exact then_I ⟨fun ii => (([(9, by8 (blk.getD (k * 4 + j) 0)), (31, .bool true), (32, .pointer (some ⟨qb, k * 4 + j, none⟩)), (33, by8 (blk.getD (k * 4 + j) 0)), (34, iN .i64 k), (35, iN .i64 k), (36, .pointer (some ⟨q7, k, none⟩)), (37, bv .u32 (segP 32 blk (k * 4) j)), (38, bv .u32 ((segP 32 blk (k * 4) j) <<< 8)), (39, by8 (blk.getD (k * 4 + j) 0)), (40, bv .u32 (BitVec.ofNat 32 (blk.getD (k * 4 + j) 0).toNat)), (41, bv .u32 (((segP 32 blk (k * 4) j) <<< 8) ||| (BitVec.ofNat 32 (blk.getD (k * 4 + j) 0).toNat))), (42, .pointer (some ⟨q7, k, none⟩)), (43, iN .i64 (j + 1))] : List (Nat × Value)).find? (·.1 == ii)).elim undef (·.2), by kernel_rfl, h18⟩
    · rintro _ w19 ⟨u13, rfl, h20⟩
      refine wp_seq ?_
      -- region 7
      refine wl_region ?_
      refine wl_val (.bool false) (by kernel_rfl) (run_lss (k := .i64) (a := 4) (b := 4) (by kernel_rfl) (by kernel_rfl) false (by decide)) ?_
      refine wl_nil ?_
      refine then_at (F := ⟨(.agg kcS :: .slice (some ⟨qb, 0, none⟩) 64 64 :: pt q1 :: un :: pt q4 :: pt q7 :: iN .i64 4 :: iN .i64 k :: un :: u13 9 :: un :: un :: un :: un :: .pointer (some ⟨q1, 1, none⟩) :: iN .i64 64 :: iN .i64 4 :: iN .i64 k :: .bool true :: iN .i64 k :: .slice (some ⟨qb, 0, none⟩) 64 64 :: iN .i64 k :: iN .i64 4 :: iN .i64 (k * 4) :: iN .i64 k :: iN .i64 (k + 1) :: iN .i64 4 :: iN .i64 ((k + 1) * 4) :: .slice (some ⟨qb, k * 4, none⟩) 4 (64 - (k * 4)) :: iN .i64 4 :: iN .i64 4 :: .bool false :: u13 32 :: u13 33 :: u13 34 :: u13 35 :: u13 36 :: u13 37 :: u13 38 :: u13 39 :: u13 40 :: u13 41 :: u13 42 :: u13 43 :: u10 44 :: List.replicate 40 un).toArray, []⟩) (by kernel_rfl) ?_
      refine wp_seq ?_
      refine wp_cond_false (by kernel_rfl) ?_
      refine wp_exit ?_
      repeat first | refine then_exit ?_ | refine block_exit ?_ | refine block_exit_ne (by decide) ?_
      refine block_normal ?_
      refine then_at (F := ⟨(.agg kcS :: .slice (some ⟨qb, 0, none⟩) 64 64 :: pt q1 :: un :: pt q4 :: pt q7 :: iN .i64 4 :: iN .i64 k :: un :: u13 9 :: un :: un :: un :: un :: .pointer (some ⟨q1, 1, none⟩) :: iN .i64 64 :: iN .i64 4 :: iN .i64 k :: .bool true :: iN .i64 k :: .slice (some ⟨qb, 0, none⟩) 64 64 :: iN .i64 k :: iN .i64 4 :: iN .i64 (k * 4) :: iN .i64 k :: iN .i64 (k + 1) :: iN .i64 4 :: iN .i64 ((k + 1) * 4) :: .slice (some ⟨qb, k * 4, none⟩) 4 (64 - (k * 4)) :: iN .i64 4 :: iN .i64 4 :: .bool false :: u13 32 :: u13 33 :: u13 34 :: u13 35 :: u13 36 :: u13 37 :: u13 38 :: u13 39 :: u13 40 :: u13 41 :: u13 42 :: u13 43 :: u10 44 :: List.replicate 40 un).toArray, []⟩) (by kernel_rfl) ?_
      -- region 11
      refine wl_region ?_
      refine wl_val (iN .i64 (k + 1)) (by kernel_rfl) (run_add (k := .i64) (a := k) (b := 1) (by kernel_rfl) (by kernel_rfl) (by simp only [top]; omega)) ?_
      refine wl_val (iN .i64 (k + 1)) (by kernel_rfl) (by kernel_rfl) ?_
      refine wl_nil ?_
      exact then_I ⟨fun ii => (([(7, iN .i64 k), (9, u13 9), (18, .bool true), (19, iN .i64 k), (20, .slice (some ⟨qb, 0, none⟩) 64 64), (21, iN .i64 k), (22, iN .i64 4), (23, iN .i64 (k * 4)), (24, iN .i64 k), (25, iN .i64 (k + 1)), (26, iN .i64 4), (27, iN .i64 ((k + 1) * 4)), (28, .slice (some ⟨qb, k * 4, none⟩) 4 (64 - (k * 4))), (29, iN .i64 4), (30, iN .i64 4), (31, .bool false), (32, u13 32), (33, u13 33), (34, u13 34), (35, u13 35), (36, u13 36), (37, u13 37), (38, u13 38), (39, u13 39), (40, u13 40), (41, u13 41), (42, u13 42), (43, u13 43), (44, iN .i64 (k + 1))] : List (Nat × Value)).find? (·.1 == ii)).elim undef (·.2), by kernel_rfl, h20⟩
  · rintro _ w21 ⟨u10, rfl, h22⟩
    refine wp_seq ?_
    -- region 4
    refine wl_region ?_
    refine wl_val (.bool false) (by kernel_rfl) (run_lss (k := .i64) (a := 16) (b := 16) (by kernel_rfl) (by kernel_rfl) false (by decide)) ?_
    refine wl_nil ?_
    refine then_at (F := ⟨(.agg kcS :: .slice (some ⟨qb, 0, none⟩) 64 64 :: pt q1 :: un :: pt q4 :: pt q7 :: iN .i64 4 :: u10 7 :: un :: u10 9 :: un :: un :: un :: un :: .pointer (some ⟨q1, 1, none⟩) :: iN .i64 64 :: iN .i64 4 :: iN .i64 16 :: .bool false :: u10 19 :: u10 20 :: u10 21 :: u10 22 :: u10 23 :: u10 24 :: u10 25 :: u10 26 :: u10 27 :: u10 28 :: u10 29 :: u10 30 :: u10 31 :: u10 32 :: u10 33 :: u10 34 :: u10 35 :: u10 36 :: u10 37 :: u10 38 :: u10 39 :: u10 40 :: u10 41 :: u10 42 :: u10 43 :: u10 44 :: List.replicate 40 un).toArray, []⟩) (by kernel_rfl) ?_
    refine wp_seq ?_
    refine wp_cond_false (by kernel_rfl) ?_
    refine wp_exit ?_
    repeat first | refine then_exit ?_ | refine block_exit ?_ | refine block_exit_ne (by decide) ?_
    refine then_at (F := ⟨(.agg kcS :: .slice (some ⟨qb, 0, none⟩) 64 64 :: pt q1 :: un :: pt q4 :: pt q7 :: iN .i64 4 :: u10 7 :: un :: u10 9 :: un :: un :: un :: un :: .pointer (some ⟨q1, 1, none⟩) :: iN .i64 64 :: iN .i64 4 :: iN .i64 16 :: .bool false :: u10 19 :: u10 20 :: u10 21 :: u10 22 :: u10 23 :: u10 24 :: u10 25 :: u10 26 :: u10 27 :: u10 28 :: u10 29 :: u10 30 :: u10 31 :: u10 32 :: u10 33 :: u10 34 :: u10 35 :: u10 36 :: u10 37 :: u10 38 :: u10 39 :: u10 40 :: u10 41 :: u10 42 :: u10 43 :: u10 44 :: List.replicate 40 un).toArray, []⟩) (by kernel_rfl) ?_
    refine wp_seq ?_
    -- region 12
    obtain ⟨B23, eB23⟩ : ∃ B, B = w21.heap.size := ⟨_, rfl⟩
    refine wp_region_ghost (fun g : Nat → Nat => (⟨(.agg kcS :: .slice (some ⟨qb, 0, none⟩) 64 64 :: pt q1 :: un :: pt q4 :: pt q7 :: iN .i64 4 :: u10 7 :: un :: u10 9 :: iN .u64 32 :: pt (g 6) :: pt (g 7) :: un :: .pointer (some ⟨q1, 1, none⟩) :: iN .i64 64 :: iN .i64 4 :: iN .i64 16 :: .bool false :: u10 19 :: u10 20 :: u10 21 :: u10 22 :: u10 23 :: u10 24 :: u10 25 :: u10 26 :: u10 27 :: u10 28 :: u10 29 :: u10 30 :: u10 31 :: u10 32 :: u10 33 :: u10 34 :: u10 35 :: u10 36 :: u10 37 :: u10 38 :: u10 39 :: u10 40 :: u10 41 :: u10 42 :: u10 43 :: u10 44 :: pt q1 :: iN .u64 32 :: .pointer (some ⟨q1, 10, none⟩) :: .agg (tc 7 18 3) :: .pointer (some ⟨q1, 13, none⟩) :: .agg (tc 17 19 10) :: List.replicate 34 un).toArray, []⟩ : Act)) (GS w [(q7, 66, wc .u32 (firstP 32 4 blk 16 ++ List.replicate (80 - 16) 0)), (q4, 66, wc .u32 (List.replicate 80 (0 : BitVec 32))), (q1, 52, kcS)] B23 2 6 9 50 (tc 0 0 0) (fun j => match j with | 0 => tc 7 18 3 | _ => tc 17 19 10)) [.pointer (some ⟨q1, 0, none⟩), iN .u64 32, .pointer (some ⟨q1, 10, none⟩), .agg (tc 7 18 3), .pointer (some ⟨q1, 13, none⟩), .agg (tc 17 19 10), .pointer (some ⟨0, 0, none⟩), .pointer (some ⟨0, 0, none⟩), iN .u64 32, undef, undef] (by kernel_rfl) (by kernel_rfl) (by kernel_rfl) (by kernel_rfl) (fun _ _ _ _ h => h) (fun d hd => GS.start h22.drew eB23 (by decide) (fun j _ => by rcases j with _ | j <;> exact rfl) (fun j hj => hd j (Nat.lt_of_lt_of_le hj (by decide)))) ?_ ?_
    · refine AllGhost.cons (ghost_plain (v := .pointer (some ⟨q1, 0, none⟩)) (by decide) (fun _ => by kernel_rfl) (fun _ => by kernel_rfl) (fun _ _ => (by kernel_rfl))) ?_
      refine AllGhost.cons (ghost_held (v := iN .u64 32) (by decide) (fun _ => by kernel_rfl) (fun _ => by kernel_rfl) (fun _ w' h' => run_load1 (fun w => Tryd.isAgg46 w) (by kernel_rfl) (((h'.get 2 rfl).cell 0).trans (by kernel_rfl)))) ?_
      refine AllGhost.cons (ghost_plain (v := .pointer (some ⟨q1, 10, none⟩)) (by decide) (fun _ => by kernel_rfl) (fun _ => by kernel_rfl) (fun _ _ => (by kernel_rfl))) ?_
      refine AllGhost.cons (ghost_held (v := .agg (tc 7 18 3)) (by decide) (fun _ => by kernel_rfl) (fun _ => by kernel_rfl) (fun _ w' h' => run_part34 (q := q1) (off := 10) (a := 7) (b := 18) (d := 3) (by kernel_rfl) (h'.get 2 rfl) (by kernel_rfl))) ?_
      refine AllGhost.cons (ghost_plain (v := .pointer (some ⟨q1, 13, none⟩)) (by decide) (fun _ => by kernel_rfl) (fun _ => by kernel_rfl) (fun _ _ => (by kernel_rfl))) ?_
      refine AllGhost.cons (ghost_held (v := .agg (tc 17 19 10)) (by decide) (fun _ => by kernel_rfl) (fun _ => by kernel_rfl) (fun _ w' h' => run_part34 (q := q1) (off := 13) (a := 17) (b := 19) (d := 10) (by kernel_rfl) (h'.get 2 rfl) (by kernel_rfl))) ?_
      refine AllGhost.cons (ghost_make 0 (by decide) rfl (fun _ => by kernel_rfl) (fun _ _ => by kernel_rfl) (fun _ _ => run_alloc34)) ?_
      refine AllGhost.cons (ghost_make 1 (by decide) rfl (fun _ => by kernel_rfl) (fun _ _ => by kernel_rfl) (fun _ _ => run_alloc34)) ?_
      refine AllGhost.cons (ghost_plain (v := iN .u64 32) (by decide) (fun _ => by kernel_rfl) (fun _ => by kernel_rfl) (fun _ _ => (by kernel_rfl))) ?_
      refine AllGhost.cons (ghost_fill 0 (by decide) rfl (fun _ => by kernel_rfl) (fun _ => by kernel_rfl) (fun _ => by kernel_rfl) (fun _ => by kernel_rfl) (info34 7 18 3) (one_tc 7 18 3) (by kernel_rfl)) ?_
      refine AllGhost.cons (ghost_fill 1 (by decide) rfl (fun _ => by kernel_rfl) (fun _ => by kernel_rfl) (fun _ => by kernel_rfl) (fun _ => by kernel_rfl) (info34 17 19 10) (one_tc 17 19 10) (by kernel_rfl)) ?_
      exact AllGhost.nil
    intro g w24 g25
    have h26 : HA w [(g 7, 50, tc 17 19 10), (g 6, 50, tc 7 18 3), (q7, 66, wc .u32 (firstP 32 4 blk 16 ++ List.replicate (80 - 16) 0)), (q4, 66, wc .u32 (List.replicate 80 (0 : BitVec 32))), (q1, 52, kcS)] w24 := g25.two
    clear g25 eB23
    generalize g 6 = q27 at h26 ⊢
    generalize g 7 = q28 at h26 ⊢
    clear g
    refine then_at (F := ⟨(.agg kcS :: .slice (some ⟨qb, 0, none⟩) 64 64 :: pt q1 :: un :: pt q4 :: pt q7 :: iN .i64 4 :: u10 7 :: un :: u10 9 :: iN .u64 32 :: pt q27 :: pt q28 :: un :: .pointer (some ⟨q1, 1, none⟩) :: iN .i64 64 :: iN .i64 4 :: iN .i64 16 :: .bool false :: u10 19 :: u10 20 :: u10 21 :: u10 22 :: u10 23 :: u10 24 :: u10 25 :: u10 26 :: u10 27 :: u10 28 :: u10 29 :: u10 30 :: u10 31 :: u10 32 :: u10 33 :: u10 34 :: u10 35 :: u10 36 :: u10 37 :: u10 38 :: u10 39 :: u10 40 :: u10 41 :: u10 42 :: u10 43 :: u10 44 :: pt q1 :: iN .u64 32 :: .pointer (some ⟨q1, 10, none⟩) :: .agg (tc 7 18 3) :: .pointer (some ⟨q1, 13, none⟩) :: .agg (tc 17 19 10) :: List.replicate 34 un).toArray, []⟩) (by kernel_rfl) ?_
    refine wp_seq ?_
    refine wp_seq ?_
    -- region 13
    refine wl_region ?_
    refine wl_val (iN .i64 16) (by kernel_rfl) (by kernel_rfl) ?_
    refine wl_nil ?_
    refine then_at (F := ⟨(.agg kcS :: .slice (some ⟨qb, 0, none⟩) 64 64 :: pt q1 :: un :: pt q4 :: pt q7 :: iN .i64 4 :: u10 7 :: un :: u10 9 :: iN .u64 32 :: pt q27 :: pt q28 :: iN .i64 16 :: .pointer (some ⟨q1, 1, none⟩) :: iN .i64 64 :: iN .i64 4 :: iN .i64 16 :: .bool false :: u10 19 :: u10 20 :: u10 21 :: u10 22 :: u10 23 :: u10 24 :: u10 25 :: u10 26 :: u10 27 :: u10 28 :: u10 29 :: u10 30 :: u10 31 :: u10 32 :: u10 33 :: u10 34 :: u10 35 :: u10 36 :: u10 37 :: u10 38 :: u10 39 :: u10 40 :: u10 41 :: u10 42 :: u10 43 :: u10 44 :: pt q1 :: iN .u64 32 :: .pointer (some ⟨q1, 10, none⟩) :: .agg (tc 7 18 3) :: .pointer (some ⟨q1, 13, none⟩) :: .agg (tc 17 19 10) :: List.replicate 34 un).toArray, []⟩) (by kernel_rfl) ?_
    refine wp_block ?_
    refine wp_count (fun k A w' => ∃ u29 : Nat → Value, A = ⟨(.agg kcS :: .slice (some ⟨qb, 0, none⟩) 64 64 :: pt q1 :: un :: pt q4 :: pt q7 :: iN .i64 4 :: u10 7 :: un :: u10 9 :: iN .u64 32 :: pt q27 :: pt q28 :: iN .i64 (16 + k) :: .pointer (some ⟨q1, 1, none⟩) :: iN .i64 64 :: iN .i64 4 :: iN .i64 16 :: .bool false :: u10 19 :: u10 20 :: u10 21 :: u10 22 :: u10 23 :: u10 24 :: u10 25 :: u10 26 :: u10 27 :: u10 28 :: u10 29 :: u10 30 :: u10 31 :: u10 32 :: u10 33 :: u10 34 :: u10 35 :: u10 36 :: u10 37 :: u10 38 :: u10 39 :: u10 40 :: u10 41 :: u10 42 :: u10 43 :: u10 44 :: pt q1 :: iN .u64 32 :: .pointer (some ⟨q1, 10, none⟩) :: .agg (tc 7 18 3) :: .pointer (some ⟨q1, 13, none⟩) :: .agg (tc 17 19 10) :: u29 51 :: u29 52 :: u29 53 :: u29 54 :: u29 55 :: u29 56 :: u29 57 :: u29 58 :: u29 59 :: u29 60 :: u29 61 :: u29 62 :: u29 63 :: u29 64 :: u29 65 :: u29 66 :: u29 67 :: u29 68 :: u29 69 :: u29 70 :: u29 71 :: u29 72 :: u29 73 :: u29 74 :: u29 75 :: u29 76 :: u29 77 :: u29 78 :: u29 79 :: u29 80 :: u29 81 :: u29 82 :: u29 83 :: List.replicate 1 un).toArray, []⟩ ∧ HA w [(q28, 50, tc 17 19 10), (q27, 50, tc 7 18 3), (q7, 66, wc .u32 (schP KS blk k ++ List.replicate (64 - k) 0)), (q4, 66, wc .u32 (List.replicate 80 (0 : BitVec 32))), (q1, 52, kcS)] w') 48 ?_ ?_ ?_
    · exact ⟨fun ii => (([(51, undef), (52, undef), (53, undef), (54, undef), (55, undef), (56, undef), (57, undef), (58, undef), (59, undef), (60, undef), (61, undef), (62, undef), (63, undef), (64, undef), (65, undef), (66, undef), (67, undef), (68, undef), (69, undef), (70, undef), (71, undef), (72, undef), (73, undef), (74, undef), (75, undef), (76, undef), (77, undef), (78, undef), (79, undef), (80, undef), (81, undef), (82, undef), (83, undef)] : List (Nat × Value)).find? (·.1 == ii)).elim undef (·.2), by kernel_rfl, h26⟩
    · rintro k hk _ w30 ⟨u29, rfl, h31⟩
      refine wp_seq ?_
      refine wp_seq ?_
      -- region 14
      refine wl_region ?_
      refine wl_val (iN .i64 (16 + k)) (by kernel_rfl) (by kernel_rfl) ?_
      refine wl_val (.pointer (some ⟨q1, 2, none⟩)) (by kernel_rfl) (by kernel_rfl) ?_
      refine wl_val (iN .i64 64) (by kernel_rfl) (run_load1 (fun w => Tryd.isAgg3 w) (by kernel_rfl) (((h31.get 4 rfl).cell 2).trans (by kernel_rfl))) ?_
      refine wl_val (.bool true) (by kernel_rfl) (run_lss (k := .i64) (a := 16 + k) (b := 64) (by kernel_rfl) (by kernel_rfl) true (decide_eq_true (by omega))) ?_
      refine wl_nil ?_
      refine then_at (F := ⟨(.agg kcS :: .slice (some ⟨qb, 0, none⟩) 64 64 :: pt q1 :: un :: pt q4 :: pt q7 :: iN .i64 4 :: u10 7 :: un :: u10 9 :: iN .u64 32 :: pt q27 :: pt q28 :: iN .i64 (16 + k) :: .pointer (some ⟨q1, 1, none⟩) :: iN .i64 64 :: iN .i64 4 :: iN .i64 16 :: .bool false :: u10 19 :: u10 20 :: u10 21 :: u10 22 :: u10 23 :: u10 24 :: u10 25 :: u10 26 :: u10 27 :: u10 28 :: u10 29 :: u10 30 :: u10 31 :: u10 32 :: u10 33 :: u10 34 :: u10 35 :: u10 36 :: u10 37 :: u10 38 :: u10 39 :: u10 40 :: u10 41 :: u10 42 :: u10 43 :: u10 44 :: pt q1 :: iN .u64 32 :: .pointer (some ⟨q1, 10, none⟩) :: .agg (tc 7 18 3) :: .pointer (some ⟨q1, 13, none⟩) :: .agg (tc 17 19 10) :: iN .i64 (16 + k) :: .pointer (some ⟨q1, 2, none⟩) :: iN .i64 64 :: .bool true :: u29 55 :: u29 56 :: u29 57 :: u29 58 :: u29 59 :: u29 60 :: u29 61 :: u29 62 :: u29 63 :: u29 64 :: u29 65 :: u29 66 :: u29 67 :: u29 68 :: u29 69 :: u29 70 :: u29 71 :: u29 72 :: u29 73 :: u29 74 :: u29 75 :: u29 76 :: u29 77 :: u29 78 :: u29 79 :: u29 80 :: u29 81 :: u29 82 :: u29 83 :: List.replicate 1 un).toArray, []⟩) (by kernel_rfl) ?_
      refine wp_cond_true (by kernel_rfl) ?_
      refine wp_skip ?_
      refine then_at (F := ⟨(.agg kcS :: .slice (some ⟨qb, 0, none⟩) 64 64 :: pt q1 :: un :: pt q4 :: pt q7 :: iN .i64 4 :: u10 7 :: un :: u10 9 :: iN .u64 32 :: pt q27 :: pt q28 :: iN .i64 (16 + k) :: .pointer (some ⟨q1, 1, none⟩) :: iN .i64 64 :: iN .i64 4 :: iN .i64 16 :: .bool false :: u10 19 :: u10 20 :: u10 21 :: u10 22 :: u10 23 :: u10 24 :: u10 25 :: u10 26 :: u10 27 :: u10 28 :: u10 29 :: u10 30 :: u10 31 :: u10 32 :: u10 33 :: u10 34 :: u10 35 :: u10 36 :: u10 37 :: u10 38 :: u10 39 :: u10 40 :: u10 41 :: u10 42 :: u10 43 :: u10 44 :: pt q1 :: iN .u64 32 :: .pointer (some ⟨q1, 10, none⟩) :: .agg (tc 7 18 3) :: .pointer (some ⟨q1, 13, none⟩) :: .agg (tc 17 19 10) :: iN .i64 (16 + k) :: .pointer (some ⟨q1, 2, none⟩) :: iN .i64 64 :: .bool true :: u29 55 :: u29 56 :: u29 57 :: u29 58 :: u29 59 :: u29 60 :: u29 61 :: u29 62 :: u29 63 :: u29 64 :: u29 65 :: u29 66 :: u29 67 :: u29 68 :: u29 69 :: u29 70 :: u29 71 :: u29 72 :: u29 73 :: u29 74 :: u29 75 :: u29 76 :: u29 77 :: u29 78 :: u29 79 :: u29 80 :: u29 81 :: u29 82 :: u29 83 :: List.replicate 1 un).toArray, []⟩) (by kernel_rfl) ?_
      refine wp_seq ?_
      refine wp_block ?_
      -- region 16
      refine wp_region_ghost (fun _ : Nat → Nat => (⟨(.agg kcS :: .slice (some ⟨qb, 0, none⟩) 64 64 :: pt q1 :: un :: pt q4 :: pt q7 :: iN .i64 4 :: u10 7 :: un :: u10 9 :: iN .u64 32 :: pt q27 :: pt q28 :: iN .i64 (16 + k) :: .pointer (some ⟨q1, 1, none⟩) :: iN .i64 64 :: iN .i64 4 :: iN .i64 16 :: .bool false :: u10 19 :: u10 20 :: u10 21 :: u10 22 :: u10 23 :: u10 24 :: u10 25 :: u10 26 :: u10 27 :: u10 28 :: u10 29 :: u10 30 :: u10 31 :: u10 32 :: u10 33 :: u10 34 :: u10 35 :: u10 36 :: u10 37 :: u10 38 :: u10 39 :: u10 40 :: u10 41 :: u10 42 :: u10 43 :: u10 44 :: pt q1 :: iN .u64 32 :: .pointer (some ⟨q1, 10, none⟩) :: .agg (tc 7 18 3) :: .pointer (some ⟨q1, 13, none⟩) :: .agg (tc 17 19 10) :: iN .i64 (16 + k) :: .pointer (some ⟨q1, 2, none⟩) :: iN .i64 64 :: .bool true :: u29 55 :: u29 56 :: iN .i64 (16 + k) :: iN .i64 (16 + k) :: iN .i64 ((16 + k) - 2) :: .pointer (some ⟨q7, (16 + k) - 2, none⟩) :: bv .u32 ((schP KS blk k).getD ((16 + k) - 2) 0) :: .agg (tc 17 19 10) :: iN .u64 32 :: bv .u32 (movP ((schP KS blk k).getD ((16 + k) - 2) 0) (17, 19, 10)) :: iN .i64 (16 + k) :: iN .i64 ((16 + k) - 7) :: .pointer (some ⟨q7, (16 + k) - 7, none⟩) :: bv .u32 ((schP KS blk k).getD ((16 + k) - 7) 0) :: bv .u32 ((movP ((schP KS blk k).getD ((16 + k) - 2) 0) (17, 19, 10)) + ((schP KS blk k).getD ((16 + k) - 7) 0)) :: iN .i64 (16 + k) :: iN .i64 ((16 + k) - 15) :: .pointer (some ⟨q7, (16 + k) - 15, none⟩) :: bv .u32 ((schP KS blk k).getD ((16 + k) - 15) 0) :: .agg (tc 7 18 3) :: iN .u64 32 :: bv .u32 (movP ((schP KS blk k).getD ((16 + k) - 15) 0) (7, 18, 3)) :: bv .u32 (((movP ((schP KS blk k).getD ((16 + k) - 2) 0) (17, 19, 10)) + ((schP KS blk k).getD ((16 + k) - 7) 0)) + (movP ((schP KS blk k).getD ((16 + k) - 15) 0) (7, 18, 3))) :: iN .i64 (16 + k) :: iN .i64 ((16 + k) - 16) :: .pointer (some ⟨q7, (16 + k) - 16, none⟩) :: bv .u32 ((schP KS blk k).getD ((16 + k) - 16) 0) :: bv .u32 ((((movP ((schP KS blk k).getD ((16 + k) - 2) 0) (17, 19, 10)) + ((schP KS blk k).getD ((16 + k) - 7) 0)) + (movP ((schP KS blk k).getD ((16 + k) - 15) 0) (7, 18, 3))) + ((schP KS blk k).getD ((16 + k) - 16) 0)) :: .pointer (some ⟨q7, 16 + k, none⟩) :: List.replicate 1 un).toArray, []⟩ : Act)) (GQ w [(q28, 50, tc 17 19 10), (q27, 50, tc 7 18 3), (q7, 66, wc .u32 (schP KS blk k ++ List.replicate (64 - k) 0)), (q4, 66, wc .u32 (List.replicate 80 (0 : BitVec 32))), (q1, 52, kcS)] (fun i => ([[], [], [1], [2], [3], [], [], [4, 5, 6], [], [8], [9], [10], [7, 11], [], [13], [14], [15], [], [], [16, 17, 18], [12, 19], [], [21], [22], [23], [20, 24], [0], [26, 25]] : List (List Nat)).getD i []) 27 2 q7 66 (wc .u32 (schP KS blk (k + 1) ++ List.replicate (64 - (k + 1)) 0))) [iN .i64 (16 + k), iN .i64 (16 + k), iN .i64 ((16 + k) - 2), .pointer (some ⟨q7, (16 + k) - 2, none⟩), bv .u32 ((schP KS blk k).getD ((16 + k) - 2) 0), .agg (tc 17 19 10), iN .u64 32, bv .u32 (movP ((schP KS blk k).getD ((16 + k) - 2) 0) (17, 19, 10)), iN .i64 (16 + k), iN .i64 ((16 + k) - 7), .pointer (some ⟨q7, (16 + k) - 7, none⟩), bv .u32 ((schP KS blk k).getD ((16 + k) - 7) 0), bv .u32 ((movP ((schP KS blk k).getD ((16 + k) - 2) 0) (17, 19, 10)) + ((schP KS blk k).getD ((16 + k) - 7) 0)), iN .i64 (16 + k), iN .i64 ((16 + k) - 15), .pointer (some ⟨q7, (16 + k) - 15, none⟩), bv .u32 ((schP KS blk k).getD ((16 + k) - 15) 0), .agg (tc 7 18 3), iN .u64 32, bv .u32 (movP ((schP KS blk k).getD ((16 + k) - 15) 0) (7, 18, 3)), bv .u32 (((movP ((schP KS blk k).getD ((16 + k) - 2) 0) (17, 19, 10)) + ((schP KS blk k).getD ((16 + k) - 7) 0)) + (movP ((schP KS blk k).getD ((16 + k) - 15) 0) (7, 18, 3))), iN .i64 (16 + k), iN .i64 ((16 + k) - 16), .pointer (some ⟨q7, (16 + k) - 16, none⟩), bv .u32 ((schP KS blk k).getD ((16 + k) - 16) 0), bv .u32 ((((movP ((schP KS blk k).getD ((16 + k) - 2) 0) (17, 19, 10)) + ((schP KS blk k).getD ((16 + k) - 7) 0)) + (movP ((schP KS blk k).getD ((16 + k) - 15) 0) (7, 18, 3))) + ((schP KS blk k).getD ((16 + k) - 16) 0)), .pointer (some ⟨q7, 16 + k, none⟩), undef] (by kernel_rfl) (by kernel_rfl) (by kernel_rfl) (by kernel_rfl) (fun _ _ _ _ h => h) (fun d hd => GQ.start h31.drew (hd 27 (by decide)) (Cl.start (n := 28) hd (by decide))) ?_ ?_
      · refine AllGhost.cons (gq_plain (v := iN .i64 (16 + k)) (by decide) (by kernel_rfl) (fun _ => by kernel_rfl) (fun _ => by kernel_rfl) (fun _ _ => (by kernel_rfl))) ?_
        refine AllGhost.cons (gq_plain (v := iN .i64 (16 + k)) (by decide) (by kernel_rfl) (fun _ => by kernel_rfl) (fun _ => by kernel_rfl) (fun _ _ => (by kernel_rfl))) ?_
        refine AllGhost.cons (gq_plain (v := iN .i64 ((16 + k) - 2)) (by decide) (by kernel_rfl) (fun _ => by kernel_rfl) (fun _ => by kernel_rfl) (fun _ _ => (run_sub (k := .i64) (a := 16 + k) (b := 2) (by kernel_rfl) (by kernel_rfl) (by omega) (by simp only [top]; omega)))) ?_
        refine AllGhost.cons (gq_plain (v := .pointer (some ⟨q7, (16 + k) - 2, none⟩)) (by decide) (by kernel_rfl) (fun _ => by kernel_rfl) (fun _ => by kernel_rfl) (fun _ _ => (run_addr_arr (q := q7) (a := (16 + k) - 2) Tryd.underlying66 (fun w => Tryd.sizeOf48 w) (by kernel_rfl) (by kernel_rfl) (by omega)))) ?_
        refine AllGhost.cons (gq_read (v := bv .u32 ((schP KS blk k).getD ((16 + k) - 2) 0)) 2 rfl (.inr (fun d C h => (C 7 (C 12 (C 20 (C 25 (C 27 h 25 (by decide)) 20 (by decide)) 12 (by decide)) 7 (by decide)) 4 (by decide)))) (by decide) (by kernel_rfl) (fun _ => by kernel_rfl) (fun _ => by kernel_rfl) (fun _ _ hb => run_load1 (fun w => Tryd.isAgg48 w) (by kernel_rfl) ((hb.cell ((16 + k) - 2)).trans (pad_get .u32 (schP KS blk k) (64 - k) ((16 + k) - 2) (by rw [schP_len]; omega))))) ?_
        refine AllGhost.cons (gq_read (v := .agg (tc 17 19 10)) 0 rfl (.inl (by decide)) (by decide) (by kernel_rfl) (fun _ => by kernel_rfl) (fun _ => by kernel_rfl) (fun _ _ hb => run_load_blk (by kernel_rfl) hb Tryd.underlying50 rfl (info34 17 19 10))) ?_
        refine AllGhost.cons (gq_plain (v := iN .u64 32) (by decide) (by kernel_rfl) (fun _ => by kernel_rfl) (fun _ => by kernel_rfl) (fun _ _ => (by kernel_rfl))) ?_
        refine AllGhost.cons (gq_call (v := bv .u32 (movP ((schP KS blk k).getD ((16 + k) - 2) 0) (17, 19, 10))) (by decide) (by kernel_rfl) (fun _ => by kernel_rfl) (fun _ => by kernel_rfl) enter39 #[bv .u32 ((schP KS blk k).getD ((16 + k) - 2) 0), .agg (tc 17 19 10), iN .u64 32] (fun _ => by kernel_rfl) (fun w' ho => mbS ((schP KS blk k).getD ((16 + k) - 2) 0) 17 19 10 (by decide) (by decide) (by decide) w')) ?_
        refine AllGhost.cons (gq_plain (v := iN .i64 (16 + k)) (by decide) (by kernel_rfl) (fun _ => by kernel_rfl) (fun _ => by kernel_rfl) (fun _ _ => (by kernel_rfl))) ?_
        refine AllGhost.cons (gq_plain (v := iN .i64 ((16 + k) - 7)) (by decide) (by kernel_rfl) (fun _ => by kernel_rfl) (fun _ => by kernel_rfl) (fun _ _ => (run_sub (k := .i64) (a := 16 + k) (b := 7) (by kernel_rfl) (by kernel_rfl) (by omega) (by simp only [top]; omega)))) ?_
        refine AllGhost.cons (gq_plain (v := .pointer (some ⟨q7, (16 + k) - 7, none⟩)) (by decide) (by kernel_rfl) (fun _ => by kernel_rfl) (fun _ => by kernel_rfl) (fun _ _ => (run_addr_arr (q := q7) (a := (16 + k) - 7) Tryd.underlying66 (fun w => Tryd.sizeOf48 w) (by kernel_rfl) (by kernel_rfl) (by omega)))) ?_
        refine AllGhost.cons (gq_read (v := bv .u32 ((schP KS blk k).getD ((16 + k) - 7) 0)) 2 rfl (.inr (fun d C h => (C 12 (C 20 (C 25 (C 27 h 25 (by decide)) 20 (by decide)) 12 (by decide)) 11 (by decide)))) (by decide) (by kernel_rfl) (fun _ => by kernel_rfl) (fun _ => by kernel_rfl) (fun _ _ hb => run_load1 (fun w => Tryd.isAgg48 w) (by kernel_rfl) ((hb.cell ((16 + k) - 7)).trans (pad_get .u32 (schP KS blk k) (64 - k) ((16 + k) - 7) (by rw [schP_len]; omega))))) ?_
        refine AllGhost.cons (gq_plain (v := bv .u32 ((movP ((schP KS blk k).getD ((16 + k) - 2) 0) (17, 19, 10)) + ((schP KS blk k).getD ((16 + k) - 7) 0))) (by decide) (by kernel_rfl) (fun _ => by kernel_rfl) (fun _ => by kernel_rfl) (fun _ _ => (run_addv WK.s (a := movP ((schP KS blk k).getD ((16 + k) - 2) 0) (17, 19, 10)) (b := (schP KS blk k).getD ((16 + k) - 7) 0) (by kernel_rfl) (by kernel_rfl)))) ?_
        refine AllGhost.cons (gq_plain (v := iN .i64 (16 + k)) (by decide) (by kernel_rfl) (fun _ => by kernel_rfl) (fun _ => by kernel_rfl) (fun _ _ => (by kernel_rfl))) ?_
        refine AllGhost.cons (gq_plain (v := iN .i64 ((16 + k) - 15)) (by decide) (by kernel_rfl) (fun _ => by kernel_rfl) (fun _ => by kernel_rfl) (fun _ _ => (run_sub (k := .i64) (a := 16 + k) (b := 15) (by kernel_rfl) (by kernel_rfl) (by omega) (by simp only [top]; omega)))) ?_
        refine AllGhost.cons (gq_plain (v := .pointer (some ⟨q7, (16 + k) - 15, none⟩)) (by decide) (by kernel_rfl) (fun _ => by kernel_rfl) (fun _ => by kernel_rfl) (fun _ _ => (run_addr_arr (q := q7) (a := (16 + k) - 15) Tryd.underlying66 (fun w => Tryd.sizeOf48 w) (by kernel_rfl) (by kernel_rfl) (by omega)))) ?_
        refine AllGhost.cons (gq_read (v := bv .u32 ((schP KS blk k).getD ((16 + k) - 15) 0)) 2 rfl (.inr (fun d C h => (C 19 (C 20 (C 25 (C 27 h 25 (by decide)) 20 (by decide)) 19 (by decide)) 16 (by decide)))) (by decide) (by kernel_rfl) (fun _ => by kernel_rfl) (fun _ => by kernel_rfl) (fun _ _ hb => run_load1 (fun w => Tryd.isAgg48 w) (by kernel_rfl) ((hb.cell ((16 + k) - 15)).trans (pad_get .u32 (schP KS blk k) (64 - k) ((16 + k) - 15) (by rw [schP_len]; omega))))) ?_
        refine AllGhost.cons (gq_read (v := .agg (tc 7 18 3)) 1 rfl (.inl (by decide)) (by decide) (by kernel_rfl) (fun _ => by kernel_rfl) (fun _ => by kernel_rfl) (fun _ _ hb => run_load_blk (by kernel_rfl) hb Tryd.underlying50 rfl (info34 7 18 3))) ?_
        refine AllGhost.cons (gq_plain (v := iN .u64 32) (by decide) (by kernel_rfl) (fun _ => by kernel_rfl) (fun _ => by kernel_rfl) (fun _ _ => (by kernel_rfl))) ?_
        refine AllGhost.cons (gq_call (v := bv .u32 (movP ((schP KS blk k).getD ((16 + k) - 15) 0) (7, 18, 3))) (by decide) (by kernel_rfl) (fun _ => by kernel_rfl) (fun _ => by kernel_rfl) enter39 #[bv .u32 ((schP KS blk k).getD ((16 + k) - 15) 0), .agg (tc 7 18 3), iN .u64 32] (fun _ => by kernel_rfl) (fun w' ho => mbS ((schP KS blk k).getD ((16 + k) - 15) 0) 7 18 3 (by decide) (by decide) (by decide) w')) ?_
        refine AllGhost.cons (gq_plain (v := bv .u32 (((movP ((schP KS blk k).getD ((16 + k) - 2) 0) (17, 19, 10)) + ((schP KS blk k).getD ((16 + k) - 7) 0)) + (movP ((schP KS blk k).getD ((16 + k) - 15) 0) (7, 18, 3)))) (by decide) (by kernel_rfl) (fun _ => by kernel_rfl) (fun _ => by kernel_rfl) (fun _ _ => (run_addv WK.s (a := (movP ((schP KS blk k).getD ((16 + k) - 2) 0) (17, 19, 10)) + ((schP KS blk k).getD ((16 + k) - 7) 0)) (b := movP ((schP KS blk k).getD ((16 + k) - 15) 0) (7, 18, 3)) (by kernel_rfl) (by kernel_rfl)))) ?_
        refine AllGhost.cons (gq_plain (v := iN .i64 (16 + k)) (by decide) (by kernel_rfl) (fun _ => by kernel_rfl) (fun _ => by kernel_rfl) (fun _ _ => (by kernel_rfl))) ?_
        refine AllGhost.cons (gq_plain (v := iN .i64 ((16 + k) - 16)) (by decide) (by kernel_rfl) (fun _ => by kernel_rfl) (fun _ => by kernel_rfl) (fun _ _ => (run_sub (k := .i64) (a := 16 + k) (b := 16) (by kernel_rfl) (by kernel_rfl) (by omega) (by simp only [top]; omega)))) ?_
        refine AllGhost.cons (gq_plain (v := .pointer (some ⟨q7, (16 + k) - 16, none⟩)) (by decide) (by kernel_rfl) (fun _ => by kernel_rfl) (fun _ => by kernel_rfl) (fun _ _ => (run_addr_arr (q := q7) (a := (16 + k) - 16) Tryd.underlying66 (fun w => Tryd.sizeOf48 w) (by kernel_rfl) (by kernel_rfl) (by omega)))) ?_
        refine AllGhost.cons (gq_read (v := bv .u32 ((schP KS blk k).getD ((16 + k) - 16) 0)) 2 rfl (.inr (fun d C h => (C 25 (C 27 h 25 (by decide)) 24 (by decide)))) (by decide) (by kernel_rfl) (fun _ => by kernel_rfl) (fun _ => by kernel_rfl) (fun _ _ hb => run_load1 (fun w => Tryd.isAgg48 w) (by kernel_rfl) ((hb.cell ((16 + k) - 16)).trans (pad_get .u32 (schP KS blk k) (64 - k) ((16 + k) - 16) (by rw [schP_len]; omega))))) ?_
        refine AllGhost.cons (gq_plain (v := bv .u32 ((((movP ((schP KS blk k).getD ((16 + k) - 2) 0) (17, 19, 10)) + ((schP KS blk k).getD ((16 + k) - 7) 0)) + (movP ((schP KS blk k).getD ((16 + k) - 15) 0) (7, 18, 3))) + ((schP KS blk k).getD ((16 + k) - 16) 0))) (by decide) (by kernel_rfl) (fun _ => by kernel_rfl) (fun _ => by kernel_rfl) (fun _ _ => (run_addv WK.s (a := ((movP ((schP KS blk k).getD ((16 + k) - 2) 0) (17, 19, 10)) + ((schP KS blk k).getD ((16 + k) - 7) 0)) + (movP ((schP KS blk k).getD ((16 + k) - 15) 0) (7, 18, 3))) (b := (schP KS blk k).getD ((16 + k) - 16) 0) (by kernel_rfl) (by kernel_rfl)))) ?_
        refine AllGhost.cons (gq_plain (v := .pointer (some ⟨q7, 16 + k, none⟩)) (by decide) (by kernel_rfl) (fun _ => by kernel_rfl) (fun _ => by kernel_rfl) (fun _ _ => (run_addr_arr (q := q7) (a := 16 + k) Tryd.underlying66 (fun w => Tryd.sizeOf48 w) (by kernel_rfl) (by kernel_rfl) (by omega)))) ?_
        refine AllGhost.cons (gq_put (k := .u32) (z := ((((((movP ((schP KS blk k).getD ((16 + k) - 2) 0) (17, 19, 10)) + ((schP KS blk k).getD ((16 + k) - 7) 0)) + (movP ((schP KS blk k).getD ((16 + k) - 15) 0) (7, 18, 3))) + ((schP KS blk k).getD ((16 + k) - 16) 0)).toNat : Nat) : Int)) (off := 16 + k) rfl (by rw [wc_size, (sch_lenS blk k (by omega))]; omega) ((pad_put .u32 (schP KS blk k) (64 - k) (64 - (k + 1)) (16 + k) ((((movP ((schP KS blk k).getD ((16 + k) - 2) 0) (17, 19, 10)) + ((schP KS blk k).getD ((16 + k) - 7) 0)) + (movP ((schP KS blk k).getD ((16 + k) - 15) 0) (7, 18, 3))) + ((schP KS blk k).getD ((16 + k) - 16) 0)) (schP_len KS blk k) (by omega))) (fun w => Tryd.sizeOf48 w) (by kernel_rfl) (fun _ => by kernel_rfl) (fun _ => by kernel_rfl) (fun _ => by kernel_rfl) (fun _ => by kernel_rfl)) ?_
        exact AllGhost.nil
      intro _ w32 g33
      have h34 : HA w [(q28, 50, tc 17 19 10), (q27, 50, tc 7 18 3), (q7, 66, wc .u32 (schP KS blk (k + 1) ++ List.replicate (64 - (k + 1)) 0)), (q4, 66, wc .u32 (List.replicate 80 (0 : BitVec 32))), (q1, 52, kcS)] w32 := g33.held
      clear g33
      refine block_normal ?_
      refine then_at (F := ⟨(.agg kcS :: .slice (some ⟨qb, 0, none⟩) 64 64 :: pt q1 :: un :: pt q4 :: pt q7 :: iN .i64 4 :: u10 7 :: un :: u10 9 :: iN .u64 32 :: pt q27 :: pt q28 :: iN .i64 (16 + k) :: .pointer (some ⟨q1, 1, none⟩) :: iN .i64 64 :: iN .i64 4 :: iN .i64 16 :: .bool false :: u10 19 :: u10 20 :: u10 21 :: u10 22 :: u10 23 :: u10 24 :: u10 25 :: u10 26 :: u10 27 :: u10 28 :: u10 29 :: u10 30 :: u10 31 :: u10 32 :: u10 33 :: u10 34 :: u10 35 :: u10 36 :: u10 37 :: u10 38 :: u10 39 :: u10 40 :: u10 41 :: u10 42 :: u10 43 :: u10 44 :: pt q1 :: iN .u64 32 :: .pointer (some ⟨q1, 10, none⟩) :: .agg (tc 7 18 3) :: .pointer (some ⟨q1, 13, none⟩) :: .agg (tc 17 19 10) :: iN .i64 (16 + k) :: .pointer (some ⟨q1, 2, none⟩) :: iN .i64 64 :: .bool true :: u29 55 :: u29 56 :: iN .i64 (16 + k) :: iN .i64 (16 + k) :: iN .i64 ((16 + k) - 2) :: .pointer (some ⟨q7, (16 + k) - 2, none⟩) :: bv .u32 ((schP KS blk k).getD ((16 + k) - 2) 0) :: .agg (tc 17 19 10) :: iN .u64 32 :: bv .u32 (movP ((schP KS blk k).getD ((16 + k) - 2) 0) (17, 19, 10)) :: iN .i64 (16 + k) :: iN .i64 ((16 + k) - 7) :: .pointer (some ⟨q7, (16 + k) - 7, none⟩) :: bv .u32 ((schP KS blk k).getD ((16 + k) - 7) 0) :: bv .u32 ((movP ((schP KS blk k).getD ((16 + k) - 2) 0) (17, 19, 10)) + ((schP KS blk k).getD ((16 + k) - 7) 0)) :: iN .i64 (16 + k) :: iN .i64 ((16 + k) - 15) :: .pointer (some ⟨q7, (16 + k) - 15, none⟩) :: bv .u32 ((schP KS blk k).getD ((16 + k) - 15) 0) :: .agg (tc 7 18 3) :: iN .u64 32 :: bv .u32 (movP ((schP KS blk k).getD ((16 + k) - 15) 0) (7, 18, 3)) :: bv .u32 (((movP ((schP KS blk k).getD ((16 + k) - 2) 0) (17, 19, 10)) + ((schP KS blk k).getD ((16 + k) - 7) 0)) + (movP ((schP KS blk k).getD ((16 + k) - 15) 0) (7, 18, 3))) :: iN .i64 (16 + k) :: iN .i64 ((16 + k) - 16) :: .pointer (some ⟨q7, (16 + k) - 16, none⟩) :: bv .u32 ((schP KS blk k).getD ((16 + k) - 16) 0) :: bv .u32 ((((movP ((schP KS blk k).getD ((16 + k) - 2) 0) (17, 19, 10)) + ((schP KS blk k).getD ((16 + k) - 7) 0)) + (movP ((schP KS blk k).getD ((16 + k) - 15) 0) (7, 18, 3))) + ((schP KS blk k).getD ((16 + k) - 16) 0)) :: .pointer (some ⟨q7, 16 + k, none⟩) :: List.replicate 1 un).toArray, []⟩) (by kernel_rfl) ?_
      -- region 15
      refine wl_region ?_
      refine wl_val (iN .i64 (16 + k)) (by kernel_rfl) (by kernel_rfl) ?_
      refine wl_val (iN .i64 ((16 + k) + 1)) (by kernel_rfl) (run_add (k := .i64) (a := 16 + k) (b := 1) (by kernel_rfl) (by kernel_rfl) (by simp only [top]; omega)) ?_
      refine wl_val (iN .i64 ((16 + k) + 1)) (by kernel_rfl) (by kernel_rfl) ?_
      refine wl_nil ?_
      exact then_I ⟨fun ii => (([(51, iN .i64 (16 + k)), (52, .pointer (some ⟨q1, 2, none⟩)), (53, iN .i64 64), (54, .bool true), (55, iN .i64 (16 + k)), (56, iN .i64 ((16 + k) + 1)), (57, iN .i64 (16 + k)), (58, iN .i64 (16 + k)), (59, iN .i64 ((16 + k) - 2)), (60, .pointer (some ⟨q7, (16 + k) - 2, none⟩)), (61, bv .u32 ((schP KS blk k).getD ((16 + k) - 2) 0)), (62, .agg (tc 17 19 10)), (63, iN .u64 32), (64, bv .u32 (movP ((schP KS blk k).getD ((16 + k) - 2) 0) (17, 19, 10))), (65, iN .i64 (16 + k)), (66, iN .i64 ((16 + k) - 7)), (67, .pointer (some ⟨q7, (16 + k) - 7, none⟩)), (68, bv .u32 ((schP KS blk k).getD ((16 + k) - 7) 0)), (69, bv .u32 ((movP ((schP KS blk k).getD ((16 + k) - 2) 0) (17, 19, 10)) + ((schP KS blk k).getD ((16 + k) - 7) 0))), (70, iN .i64 (16 + k)), (71, iN .i64 ((16 + k) - 15)), (72, .pointer (some ⟨q7, (16 + k) - 15, none⟩)), (73, bv .u32 ((schP KS blk k).getD ((16 + k) - 15) 0)), (74, .agg (tc 7 18 3)), (75, iN .u64 32), (76, bv .u32 (movP ((schP KS blk k).getD ((16 + k) - 15) 0) (7, 18, 3))), (77, bv .u32 (((movP ((schP KS blk k).getD ((16 + k) - 2) 0) (17, 19, 10)) + ((schP KS blk k).getD ((16 + k) - 7) 0)) + (movP ((schP KS blk k).getD ((16 + k) - 15) 0) (7, 18, 3)))), (78, iN .i64 (16 + k)), (79, iN .i64 ((16 + k) - 16)), (80, .pointer (some ⟨q7, (16 + k) - 16, none⟩)), (81, bv .u32 ((schP KS blk k).getD ((16 + k) - 16) 0)), (82, bv .u32 ((((movP ((schP KS blk k).getD ((16 + k) - 2) 0) (17, 19, 10)) + ((schP KS blk k).getD ((16 + k) - 7) 0)) + (movP ((schP KS blk k).getD ((16 + k) - 15) 0) (7, 18, 3))) + ((schP KS blk k).getD ((16 + k) - 16) 0))), (83, .pointer (some ⟨q7, 16 + k, none⟩))] : List (Nat × Value)).find? (·.1 == ii)).elim undef (·.2), by kernel_rfl, h34⟩
    · rintro _ w35 ⟨u29, rfl, h36⟩
      refine wp_seq ?_
      refine wp_seq ?_
      -- region 14
      refine wl_region ?_
      refine wl_val (iN .i64 (16 + 48)) (by kernel_rfl) (by kernel_rfl) ?_
      refine wl_val (.pointer (some ⟨q1, 2, none⟩)) (by kernel_rfl) (by kernel_rfl) ?_
      refine wl_val (iN .i64 64) (by kernel_rfl) (run_load1 (fun w => Tryd.isAgg3 w) (by kernel_rfl) (((h36.get 4 rfl).cell 2).trans (by kernel_rfl))) ?_
      refine wl_val (.bool false) (by kernel_rfl) (run_lss (k := .i64) (a := 16 + 48) (b := 64) (by kernel_rfl) (by kernel_rfl) false (by decide)) ?_
      refine wl_nil ?_
      refine then_at (F := ⟨(.agg kcS :: .slice (some ⟨qb, 0, none⟩) 64 64 :: pt q1 :: un :: pt q4 :: pt q7 :: iN .i64 4 :: u10 7 :: un :: u10 9 :: iN .u64 32 :: pt q27 :: pt q28 :: iN .i64 (16 + 48) :: .pointer (some ⟨q1, 1, none⟩) :: iN .i64 64 :: iN .i64 4 :: iN .i64 16 :: .bool false :: u10 19 :: u10 20 :: u10 21 :: u10 22 :: u10 23 :: u10 24 :: u10 25 :: u10 26 :: u10 27 :: u10 28 :: u10 29 :: u10 30 :: u10 31 :: u10 32 :: u10 33 :: u10 34 :: u10 35 :: u10 36 :: u10 37 :: u10 38 :: u10 39 :: u10 40 :: u10 41 :: u10 42 :: u10 43 :: u10 44 :: pt q1 :: iN .u64 32 :: .pointer (some ⟨q1, 10, none⟩) :: .agg (tc 7 18 3) :: .pointer (some ⟨q1, 13, none⟩) :: .agg (tc 17 19 10) :: iN .i64 (16 + 48) :: .pointer (some ⟨q1, 2, none⟩) :: iN .i64 64 :: .bool false :: u29 55 :: u29 56 :: u29 57 :: u29 58 :: u29 59 :: u29 60 :: u29 61 :: u29 62 :: u29 63 :: u29 64 :: u29 65 :: u29 66 :: u29 67 :: u29 68 :: u29 69 :: u29 70 :: u29 71 :: u29 72 :: u29 73 :: u29 74 :: u29 75 :: u29 76 :: u29 77 :: u29 78 :: u29 79 :: u29 80 :: u29 81 :: u29 82 :: u29 83 :: List.replicate 1 un).toArray, []⟩) (by kernel_rfl) ?_
      refine wp_cond_false (by kernel_rfl) ?_
      refine wp_exit ?_
      repeat first | refine then_exit ?_ | refine block_exit ?_ | refine block_exit_ne (by decide) ?_
      refine then_at (F := ⟨(.agg kcS :: .slice (some ⟨qb, 0, none⟩) 64 64 :: pt q1 :: un :: pt q4 :: pt q7 :: iN .i64 4 :: u10 7 :: un :: u10 9 :: iN .u64 32 :: pt q27 :: pt q28 :: iN .i64 (16 + 48) :: .pointer (some ⟨q1, 1, none⟩) :: iN .i64 64 :: iN .i64 4 :: iN .i64 16 :: .bool false :: u10 19 :: u10 20 :: u10 21 :: u10 22 :: u10 23 :: u10 24 :: u10 25 :: u10 26 :: u10 27 :: u10 28 :: u10 29 :: u10 30 :: u10 31 :: u10 32 :: u10 33 :: u10 34 :: u10 35 :: u10 36 :: u10 37 :: u10 38 :: u10 39 :: u10 40 :: u10 41 :: u10 42 :: u10 43 :: u10 44 :: pt q1 :: iN .u64 32 :: .pointer (some ⟨q1, 10, none⟩) :: .agg (tc 7 18 3) :: .pointer (some ⟨q1, 13, none⟩) :: .agg (tc 17 19 10) :: iN .i64 (16 + 48) :: .pointer (some ⟨q1, 2, none⟩) :: iN .i64 64 :: .bool false :: u29 55 :: u29 56 :: u29 57 :: u29 58 :: u29 59 :: u29 60 :: u29 61 :: u29 62 :: u29 63 :: u29 64 :: u29 65 :: u29 66 :: u29 67 :: u29 68 :: u29 69 :: u29 70 :: u29 71 :: u29 72 :: u29 73 :: u29 74 :: u29 75 :: u29 76 :: u29 77 :: u29 78 :: u29 79 :: u29 80 :: u29 81 :: u29 82 :: u29 83 :: List.replicate 1 un).toArray, []⟩) (by kernel_rfl) ?_
      refine wp_seq ?_
      -- region 17
      refine wl_region ?_
      refine wl_load h36 2 rfl (by kernel_rfl) (by kernel_rfl) Tryd.underlying66 rfl (info56 .u32 (schP KS blk 48 ++ List.replicate (64 - 48) 0) (sch_lenS blk 48 (by omega))) ?_
      refine wl_fill (c' := wc .u32 (schP KS blk 48 ++ List.replicate (64 - 48) 0)) h36 3 rfl (by kernel_rfl) (by kernel_rfl) (by kernel_rfl) (by rw [wc_size, wc_size, (sch_lenS blk 48 (by omega)), (List.length_replicate)]) (info56 .u32 (schP KS blk 48 ++ List.replicate (64 - 48) 0) (sch_lenS blk 48 (by omega))) (one_wc .u32 (schP KS blk 48 ++ List.replicate (64 - 48) 0)) ?_
      intro w37 (h38 : HA w [(q28, 50, tc 17 19 10), (q27, 50, tc 7 18 3), (q7, 66, wc .u32 (schP KS blk 48 ++ List.replicate (64 - 48) 0)), (q4, 66, wc .u32 (schP KS blk 48 ++ List.replicate (64 - 48) 0)), (q1, 52, kcS)] w37)
      refine wl_nil ?_
      refine then_at (F := ⟨(.agg kcS :: .slice (some ⟨qb, 0, none⟩) 64 64 :: pt q1 :: un :: pt q4 :: pt q7 :: iN .i64 4 :: u10 7 :: un :: u10 9 :: iN .u64 32 :: pt q27 :: pt q28 :: iN .i64 (16 + 48) :: .pointer (some ⟨q1, 1, none⟩) :: iN .i64 64 :: iN .i64 4 :: iN .i64 16 :: .bool false :: u10 19 :: u10 20 :: u10 21 :: u10 22 :: u10 23 :: u10 24 :: u10 25 :: u10 26 :: u10 27 :: u10 28 :: u10 29 :: u10 30 :: u10 31 :: u10 32 :: u10 33 :: u10 34 :: u10 35 :: u10 36 :: u10 37 :: u10 38 :: u10 39 :: u10 40 :: u10 41 :: u10 42 :: u10 43 :: u10 44 :: pt q1 :: iN .u64 32 :: .pointer (some ⟨q1, 10, none⟩) :: .agg (tc 7 18 3) :: .pointer (some ⟨q1, 13, none⟩) :: .agg (tc 17 19 10) :: iN .i64 (16 + 48) :: .pointer (some ⟨q1, 2, none⟩) :: iN .i64 64 :: .bool false :: u29 55 :: u29 56 :: u29 57 :: u29 58 :: u29 59 :: u29 60 :: u29 61 :: u29 62 :: u29 63 :: u29 64 :: u29 65 :: u29 66 :: u29 67 :: u29 68 :: u29 69 :: u29 70 :: u29 71 :: u29 72 :: u29 73 :: u29 74 :: u29 75 :: u29 76 :: u29 77 :: u29 78 :: u29 79 :: u29 80 :: u29 81 :: u29 82 :: u29 83 :: .agg (wc .u32 (schP KS blk 48 ++ List.replicate (64 - 48) 0)) :: List.replicate 0 un).toArray, []⟩) (by kernel_rfl) ?_
      refine wp_ret ?_
      repeat first | refine then_ret ?_ | refine block_ret ?_
      exact bodyPost_ret (v := .agg (wc .u32 (schP KS blk 48 ++ List.replicate (64 - 48) 0))) (res_cell (p := 4) (by kernel_rfl) (by kernel_rfl) (h38.get 3 rfl) Tryd.underlying66 rfl (info56 .u32 _ (sch_lenS blk 48 (by decide)))) rfl ⟨by rw [spr_eqS blk], h38.old⟩

theorem in_startL (blk : List UInt8) (i : Nat) (hi : i < 16) : firstP 64 8 blk i ++ List.replicate (80 - i) 0 = (firstP 64 8 blk i ++ [segP 64 blk (i * 8) 0]) ++ List.replicate (80 - (i + 1)) 0 := by
  rw [show 80 - i = (80 - (i + 1)) + 1 by omega, List.replicate_succ, List.append_assoc]
  rfl
theorem fst_lenL (blk : List UInt8) (i : Nat) (hi : i ≤ 16) : (firstP 64 8 blk i ++ List.replicate (80 - i) 0).length = 80 := by rw [pad_len, firstP_len]; omega
theorem in_lenL (blk : List UInt8) (i j : Nat) (hi : i < 16) : ((firstP 64 8 blk i ++ [segP 64 blk (i * 8) j]) ++ List.replicate (80 - (i + 1)) 0).length = 80 := by rw [pad_len, List.length_append, firstP_len]; simp; omega
theorem sch_lenL (blk : List UInt8) (i : Nat) (hi : i ≤ 64) : (schP KL blk i ++ List.replicate (64 - i) 0).length = 80 := by rw [pad_len, schP_len]; omega
theorem spr_eqL (blk : List UInt8) : schP KL blk 64 ++ List.replicate (64 - 64) 0 = sprP KL blk := rfl
theorem spr_lenL (blk : List UInt8) : (sprP KL blk).length = 80 := sch_lenL blk 64 (by decide)

end Go.Proofs.YtmlldbkhphngeaaDoor
