/-
  Bytes of a block.
-/
import Derived.Test.YthljhhhjdajfhaaA1
namespace Go.Proofs.Ythljhhhjdajfhaa
open Go.RowKit

theorem ob_len {l : List UInt8} {n m N : Nat} (h : l.length = n) (hn : n + m = N) : (l ++ List.replicate m 0).length = N := by rw [List.length_append, List.length_replicate, h, hn]
theorem ol1 (x : Q4) (k : Nat) (a : UInt8) : (outQ x k ++ [a]).length = 4 * k + 1 := by rw [List.length_append, outQ_len]; rfl
theorem ol2 (x : Q4) (k : Nat) (a b : UInt8) : ((outQ x k ++ [a]) ++ [b]).length = 4 * k + 2 := by rw [List.length_append, ol1]; rfl
theorem ol3 (x : Q4) (k : Nat) (a b c : UInt8) : (((outQ x k ++ [a]) ++ [b]) ++ [c]).length = 4 * k + 3 := by rw [List.length_append, ol2]; rfl
theorem ol4 (x : Q4) (k : Nat) (a b c d : UInt8) : ((((outQ x k ++ [a]) ++ [b]) ++ [c]) ++ [d]).length = 4 * k + 4 := by rw [List.length_append, ol3]; rfl

set_option linter.unusedVariables false in
set_option maxRecDepth 100000 in
set_option maxHeartbeats 2000000 in
theorem bytes_any (x : Q4) (w : World) :
    Calls Try.prog 20 #[.agg (qc x)] w fun e w' => e = .returned (.agg (bc (outQ x 4))) ∧ Below w.heap.size w w' := by
  have H0 := HA.start w
  go_enter Try.func20, Try.ntmps20
  refine wp_seq ?_
  -- region 0
  refine wl_region ?_
  refine wl_make H0 40 (by kernel_rfl) (run_box40 (c := qc x) (by kernel_rfl)) ?_
  intro q1 w2 h3
  refine wl_make h3 37 (by kernel_rfl) run_alloc37 ?_
  intro q4 w5 h6
  refine wl_nil ?_
  refine then_at (F := ⟨(.agg (qc x) :: pt q1 :: pt q4 :: List.replicate 44 un).toArray, []⟩) (by kernel_rfl) ?_
  refine wp_seq ?_
  -- region 1
  refine wl_region ?_
  refine wl_make h6 37 (by kernel_rfl) run_alloc37 ?_
  intro q7 w8 h9
  refine wl_nil ?_
  refine then_at (F := ⟨(.agg (qc x) :: pt q1 :: pt q4 :: pt q7 :: List.replicate 43 un).toArray, []⟩) (by kernel_rfl) ?_
  refine wp_seq ?_
  refine wp_seq ?_
  -- region 2
  refine wl_region ?_
  refine wl_val (.pointer (some ⟨q1, 0, none⟩)) (by kernel_rfl) (by kernel_rfl) ?_
  refine wl_val (bv .u32 x.a) (by kernel_rfl) (run_load1 (fun w => Try.isAgg38 w) (by kernel_rfl) (((h9.get 2 rfl).cell 0).trans (by kernel_rfl))) ?_
  refine wl_val (.pointer (some ⟨q1, 1, none⟩)) (by kernel_rfl) (by kernel_rfl) ?_
  refine wl_val (bv .u32 x.b) (by kernel_rfl) (run_load1 (fun w => Try.isAgg38 w) (by kernel_rfl) (((h9.get 2 rfl).cell 1).trans (by kernel_rfl))) ?_
  refine wl_val (.pointer (some ⟨q1, 2, none⟩)) (by kernel_rfl) (by kernel_rfl) ?_
  refine wl_val (bv .u32 x.c) (by kernel_rfl) (run_load1 (fun w => Try.isAgg38 w) (by kernel_rfl) (((h9.get 2 rfl).cell 2).trans (by kernel_rfl))) ?_
  refine wl_val (.pointer (some ⟨q1, 3, none⟩)) (by kernel_rfl) (by kernel_rfl) ?_
  refine wl_val (bv .u32 x.d) (by kernel_rfl) (run_load1 (fun w => Try.isAgg38 w) (by kernel_rfl) (((h9.get 2 rfl).cell 3).trans (by kernel_rfl))) ?_
  refine wl_val (.agg (qc x)) (by kernel_rfl) (run_build66 (a := x.a) (b := x.b) (d := x.c) (e := x.d) (by kernel_rfl) (by kernel_rfl) (by kernel_rfl) (by kernel_rfl)) ?_
  refine wl_val (iN .i64 0) (by kernel_rfl) (by kernel_rfl) ?_
  refine wl_nil ?_
  refine then_at (F := ⟨(.agg (qc x) :: pt q1 :: pt q4 :: pt q7 :: un :: un :: pt q1 :: bv .u32 x.a :: .pointer (some ⟨q1, 1, none⟩) :: bv .u32 x.b :: .pointer (some ⟨q1, 2, none⟩) :: bv .u32 x.c :: .pointer (some ⟨q1, 3, none⟩) :: bv .u32 x.d :: .agg (qc x) :: iN .i64 0 :: List.replicate 31 un).toArray, []⟩) (by kernel_rfl) ?_
  refine wp_block ?_
  refine wp_count (fun k A w' => ∃ u10 : Nat → Value, A = ⟨(.agg (qc x) :: pt q1 :: pt q4 :: pt q7 :: u10 4 :: u10 5 :: pt q1 :: bv .u32 x.a :: .pointer (some ⟨q1, 1, none⟩) :: bv .u32 x.b :: .pointer (some ⟨q1, 2, none⟩) :: bv .u32 x.c :: .pointer (some ⟨q1, 3, none⟩) :: bv .u32 x.d :: .agg (qc x) :: iN .i64 k :: u10 16 :: u10 17 :: u10 18 :: u10 19 :: u10 20 :: u10 21 :: u10 22 :: u10 23 :: u10 24 :: u10 25 :: u10 26 :: u10 27 :: u10 28 :: u10 29 :: u10 30 :: u10 31 :: u10 32 :: u10 33 :: u10 34 :: u10 35 :: u10 36 :: u10 37 :: u10 38 :: u10 39 :: u10 40 :: u10 41 :: u10 42 :: u10 43 :: u10 44 :: u10 45 :: List.replicate 1 un).toArray, []⟩ ∧ HA w [(q7, 37, bc ((outQ x k) ++ List.replicate (16 - 4 * k) 0)), (q4, 37, bc (List.replicate 16 0)), (q1, 40, qc x)] w') 4 ?_ ?_ ?_
  · exact ⟨fun ii => (([(4, undef), (5, undef), (16, undef), (17, undef), (18, undef), (19, undef), (20, undef), (21, undef), (22, undef), (23, undef), (24, undef), (25, undef), (26, undef), (27, undef), (28, undef), (29, undef), (30, undef), (31, undef), (32, undef), (33, undef), (34, undef), (35, undef), (36, undef), (37, undef), (38, undef), (39, undef), (40, undef), (41, undef), (42, undef), (43, undef), (44, undef), (45, undef)] : List (Nat × Value)).find? (·.1 == ii)).elim undef (·.2), by kernel_rfl, h9⟩
  · rintro k hk _ w11 ⟨u10, rfl, h12⟩
    refine wp_seq ?_
    -- region 3
    refine wl_region ?_
    refine wl_val (.bool true) (by kernel_rfl) (run_lss (k := .i64) (a := k) (b := 4) (by kernel_rfl) (by kernel_rfl) true (decide_eq_true (by omega))) ?_
    refine wl_nil ?_
    refine then_at (F := ⟨(.agg (qc x) :: pt q1 :: pt q4 :: pt q7 :: u10 4 :: u10 5 :: pt q1 :: bv .u32 x.a :: .pointer (some ⟨q1, 1, none⟩) :: bv .u32 x.b :: .pointer (some ⟨q1, 2, none⟩) :: bv .u32 x.c :: .pointer (some ⟨q1, 3, none⟩) :: bv .u32 x.d :: .agg (qc x) :: iN .i64 k :: .bool true :: u10 17 :: u10 18 :: u10 19 :: u10 20 :: u10 21 :: u10 22 :: u10 23 :: u10 24 :: u10 25 :: u10 26 :: u10 27 :: u10 28 :: u10 29 :: u10 30 :: u10 31 :: u10 32 :: u10 33 :: u10 34 :: u10 35 :: u10 36 :: u10 37 :: u10 38 :: u10 39 :: u10 40 :: u10 41 :: u10 42 :: u10 43 :: u10 44 :: u10 45 :: List.replicate 1 un).toArray, []⟩) (by kernel_rfl) ?_
    refine wp_seq ?_
    refine wp_cond_true (by kernel_rfl) ?_
    refine wp_skip ?_
    refine then_at (F := ⟨(.agg (qc x) :: pt q1 :: pt q4 :: pt q7 :: u10 4 :: u10 5 :: pt q1 :: bv .u32 x.a :: .pointer (some ⟨q1, 1, none⟩) :: bv .u32 x.b :: .pointer (some ⟨q1, 2, none⟩) :: bv .u32 x.c :: .pointer (some ⟨q1, 3, none⟩) :: bv .u32 x.d :: .agg (qc x) :: iN .i64 k :: .bool true :: u10 17 :: u10 18 :: u10 19 :: u10 20 :: u10 21 :: u10 22 :: u10 23 :: u10 24 :: u10 25 :: u10 26 :: u10 27 :: u10 28 :: u10 29 :: u10 30 :: u10 31 :: u10 32 :: u10 33 :: u10 34 :: u10 35 :: u10 36 :: u10 37 :: u10 38 :: u10 39 :: u10 40 :: u10 41 :: u10 42 :: u10 43 :: u10 44 :: u10 45 :: List.replicate 1 un).toArray, []⟩) (by kernel_rfl) ?_
    refine wp_seq ?_
    refine wp_block ?_
    refine wp_seq ?_
    -- region 4
    refine wl_region ?_
    refine wl_val (iN .i64 k) (by kernel_rfl) (by kernel_rfl) ?_
    refine wl_val (bv .u32 ([x.a, x.b, x.c, x.d].getD k 0)) (by kernel_rfl) (run_index66 (i := k) (by kernel_rfl) (by kernel_rfl) (by omega) (wc_get .u32 [x.a, x.b, x.c, x.d] k (by simp only [List.length_cons, List.length_nil]; omega))) ?_
    refine wl_val (iN .i64 k) (by kernel_rfl) (by kernel_rfl) ?_
    refine wl_val (bv .u32 ([x.a, x.b, x.c, x.d].getD k 0)) (by kernel_rfl) (by kernel_rfl) ?_
    refine wl_nil ?_
    refine then_at (F := ⟨(.agg (qc x) :: pt q1 :: pt q4 :: pt q7 :: iN .i64 k :: bv .u32 ([x.a, x.b, x.c, x.d].getD k 0) :: pt q1 :: bv .u32 x.a :: .pointer (some ⟨q1, 1, none⟩) :: bv .u32 x.b :: .pointer (some ⟨q1, 2, none⟩) :: bv .u32 x.c :: .pointer (some ⟨q1, 3, none⟩) :: bv .u32 x.d :: .agg (qc x) :: iN .i64 k :: .bool true :: iN .i64 k :: bv .u32 ([x.a, x.b, x.c, x.d].getD k 0) :: u10 19 :: u10 20 :: u10 21 :: u10 22 :: u10 23 :: u10 24 :: u10 25 :: u10 26 :: u10 27 :: u10 28 :: u10 29 :: u10 30 :: u10 31 :: u10 32 :: u10 33 :: u10 34 :: u10 35 :: u10 36 :: u10 37 :: u10 38 :: u10 39 :: u10 40 :: u10 41 :: u10 42 :: u10 43 :: u10 44 :: u10 45 :: List.replicate 1 un).toArray, []⟩) (by kernel_rfl) ?_
    -- region 5
    refine wl_region ?_
    refine wl_val (iN .i64 k) (by kernel_rfl) (by kernel_rfl) ?_
    refine wl_val (iN .i64 (4 * k)) (by kernel_rfl) (run_mul (k := .i64) (a := 4) (b := k) (by kernel_rfl) (by kernel_rfl) (by simp only [top]; omega)) ?_
    refine wl_val (iN .i64 k) (by kernel_rfl) (by kernel_rfl) ?_
    refine wl_val (iN .i64 (4 * k)) (by kernel_rfl) (run_mul (k := .i64) (a := 4) (b := k) (by kernel_rfl) (by kernel_rfl) (by simp only [top]; omega)) ?_
    refine wl_val (iN .i64 ((4 * k) + 1)) (by kernel_rfl) (run_add (k := .i64) (a := 4 * k) (b := 1) (by kernel_rfl) (by kernel_rfl) (by simp only [top]; omega)) ?_
    refine wl_val (iN .i64 k) (by kernel_rfl) (by kernel_rfl) ?_
    refine wl_val (iN .i64 (4 * k)) (by kernel_rfl) (run_mul (k := .i64) (a := 4) (b := k) (by kernel_rfl) (by kernel_rfl) (by simp only [top]; omega)) ?_
    refine wl_val (iN .i64 ((4 * k) + 2)) (by kernel_rfl) (run_add (k := .i64) (a := 4 * k) (b := 2) (by kernel_rfl) (by kernel_rfl) (by simp only [top]; omega)) ?_
    refine wl_val (iN .i64 k) (by kernel_rfl) (by kernel_rfl) ?_
    refine wl_val (iN .i64 (4 * k)) (by kernel_rfl) (run_mul (k := .i64) (a := 4) (b := k) (by kernel_rfl) (by kernel_rfl) (by simp only [top]; omega)) ?_
    refine wl_val (iN .i64 ((4 * k) + 3)) (by kernel_rfl) (run_add (k := .i64) (a := 4 * k) (b := 3) (by kernel_rfl) (by kernel_rfl) (by simp only [top]; omega)) ?_
    refine wl_val (bv .u32 ([x.a, x.b, x.c, x.d].getD k 0)) (by kernel_rfl) (by kernel_rfl) ?_
    refine wl_val (bv .u32 (([x.a, x.b, x.c, x.d].getD k 0) >>> 24)) (by kernel_rfl) (run_shrv (k2 := .u64) (m := 24) WK.s (a := [x.a, x.b, x.c, x.d].getD k 0) (by kernel_rfl) (by kernel_rfl)) ?_
    refine wl_val (by8 (UInt8.ofNat (([x.a, x.b, x.c, x.d].getD k 0) >>> 24).toNat)) (by kernel_rfl) (run_low (a := ([x.a, x.b, x.c, x.d].getD k 0) >>> 24) (by kernel_rfl) Try.underlying38 Try.underlying5) ?_
    refine wl_val (bv .u32 ([x.a, x.b, x.c, x.d].getD k 0)) (by kernel_rfl) (by kernel_rfl) ?_
    refine wl_val (bv .u32 (([x.a, x.b, x.c, x.d].getD k 0) >>> 16)) (by kernel_rfl) (run_shrv (k2 := .u64) (m := 16) WK.s (a := [x.a, x.b, x.c, x.d].getD k 0) (by kernel_rfl) (by kernel_rfl)) ?_
    refine wl_val (by8 (UInt8.ofNat (([x.a, x.b, x.c, x.d].getD k 0) >>> 16).toNat)) (by kernel_rfl) (run_low (a := ([x.a, x.b, x.c, x.d].getD k 0) >>> 16) (by kernel_rfl) Try.underlying38 Try.underlying5) ?_
    refine wl_val (bv .u32 ([x.a, x.b, x.c, x.d].getD k 0)) (by kernel_rfl) (by kernel_rfl) ?_
    refine wl_val (bv .u32 (([x.a, x.b, x.c, x.d].getD k 0) >>> 8)) (by kernel_rfl) (run_shrv (k2 := .u64) (m := 8) WK.s (a := [x.a, x.b, x.c, x.d].getD k 0) (by kernel_rfl) (by kernel_rfl)) ?_
    refine wl_val (by8 (UInt8.ofNat (([x.a, x.b, x.c, x.d].getD k 0) >>> 8).toNat)) (by kernel_rfl) (run_low (a := ([x.a, x.b, x.c, x.d].getD k 0) >>> 8) (by kernel_rfl) Try.underlying38 Try.underlying5) ?_
    refine wl_val (bv .u32 ([x.a, x.b, x.c, x.d].getD k 0)) (by kernel_rfl) (by kernel_rfl) ?_
    refine wl_val (by8 (UInt8.ofNat ([x.a, x.b, x.c, x.d].getD k 0).toNat)) (by kernel_rfl) (run_low (a := [x.a, x.b, x.c, x.d].getD k 0) (by kernel_rfl) Try.underlying38 Try.underlying5) ?_
    refine wl_val (.pointer (some ⟨q7, 4 * k, none⟩)) (by kernel_rfl) (addr_eq (by omega) (run_addr_k (k := .i64) (q := q7) (o := 0) (a := 4 * k) (m := 1) Try.underlying37 (fun w => Try.sizeOf5 w) (by kernel_rfl) (by kernel_rfl) (by omega))) ?_
    refine wl_put (k := .u8) (z := (((UInt8.ofNat (([x.a, x.b, x.c, x.d].getD k 0) >>> 24).toNat).toNat : Nat) : Int)) h12 0 rfl (4 * k) (by rw [bc_size, (ob_len (N := 16) (outQ_len x k) (by omega))]; omega) (by kernel_rfl) (fun w => Try.sizeOf5 w) (by kernel_rfl) (by kernel_rfl) ?_
    intro w13 h14
    have h15 : HA w [(q7, 37, bc (((outQ x k) ++ [B3 ([x.a, x.b, x.c, x.d].getD k 0)]) ++ List.replicate (16 - (4 * k + 1)) 0)), (q4, 37, bc (List.replicate 16 0)), (q1, 40, qc x)] w13 := by
      have e : (bc ((outQ x k) ++ List.replicate (16 - 4 * k) 0)).setIfInBounds (4 * k) (.int .u8 (((UInt8.ofNat (([x.a, x.b, x.c, x.d].getD k 0) >>> 24).toNat).toNat : Nat) : Int)) = bc (((outQ x k) ++ [B3 ([x.a, x.b, x.c, x.d].getD k 0)]) ++ List.replicate (16 - (4 * k + 1)) 0) := (padb_put (outQ x k) (16 - 4 * k) (16 - (4 * k + 1)) (4 * k) (B3 ([x.a, x.b, x.c, x.d].getD k 0)) (outQ_len x k) (by omega))
      rw [← e]; exact h14
    clear h14
    refine wl_val (.pointer (some ⟨q7, (4 * k) + 1, none⟩)) (by kernel_rfl) (addr_eq (by omega) (run_addr_k (k := .i64) (q := q7) (o := 0) (a := (4 * k) + 1) (m := 1) Try.underlying37 (fun w => Try.sizeOf5 w) (by kernel_rfl) (by kernel_rfl) (by omega))) ?_
    refine wl_put (k := .u8) (z := (((UInt8.ofNat (([x.a, x.b, x.c, x.d].getD k 0) >>> 16).toNat).toNat : Nat) : Int)) h15 0 rfl ((4 * k) + 1) (by rw [bc_size, (ob_len (N := 16) (ol1 x k _ ) (by omega))]; omega) (by kernel_rfl) (fun w => Try.sizeOf5 w) (by kernel_rfl) (by kernel_rfl) ?_
    intro w16 h17
    have h18 : HA w [(q7, 37, bc ((((outQ x k) ++ [B3 ([x.a, x.b, x.c, x.d].getD k 0)]) ++ [B2 ([x.a, x.b, x.c, x.d].getD k 0)]) ++ List.replicate (16 - (4 * k + 2)) 0)), (q4, 37, bc (List.replicate 16 0)), (q1, 40, qc x)] w16 := by
      have e : (bc (((outQ x k) ++ [B3 ([x.a, x.b, x.c, x.d].getD k 0)]) ++ List.replicate (16 - (4 * k + 1)) 0)).setIfInBounds ((4 * k) + 1) (.int .u8 (((UInt8.ofNat (([x.a, x.b, x.c, x.d].getD k 0) >>> 16).toNat).toNat : Nat) : Int)) = bc ((((outQ x k) ++ [B3 ([x.a, x.b, x.c, x.d].getD k 0)]) ++ [B2 ([x.a, x.b, x.c, x.d].getD k 0)]) ++ List.replicate (16 - (4 * k + 2)) 0) := (padb_put ((outQ x k) ++ [B3 ([x.a, x.b, x.c, x.d].getD k 0)]) (16 - (4 * k + 1)) (16 - (4 * k + 2)) ((4 * k) + 1) (B2 ([x.a, x.b, x.c, x.d].getD k 0)) (ol1 x k _ ) (by omega))
      rw [← e]; exact h17
    clear h17
    refine wl_val (.pointer (some ⟨q7, (4 * k) + 2, none⟩)) (by kernel_rfl) (addr_eq (by omega) (run_addr_k (k := .i64) (q := q7) (o := 0) (a := (4 * k) + 2) (m := 1) Try.underlying37 (fun w => Try.sizeOf5 w) (by kernel_rfl) (by kernel_rfl) (by omega))) ?_
    refine wl_put (k := .u8) (z := (((UInt8.ofNat (([x.a, x.b, x.c, x.d].getD k 0) >>> 8).toNat).toNat : Nat) : Int)) h18 0 rfl ((4 * k) + 2) (by rw [bc_size, (ob_len (N := 16) (ol2 x k _ _ ) (by omega))]; omega) (by kernel_rfl) (fun w => Try.sizeOf5 w) (by kernel_rfl) (by kernel_rfl) ?_
    intro w19 h20
    have h21 : HA w [(q7, 37, bc (((((outQ x k) ++ [B3 ([x.a, x.b, x.c, x.d].getD k 0)]) ++ [B2 ([x.a, x.b, x.c, x.d].getD k 0)]) ++ [B1 ([x.a, x.b, x.c, x.d].getD k 0)]) ++ List.replicate (16 - (4 * k + 3)) 0)), (q4, 37, bc (List.replicate 16 0)), (q1, 40, qc x)] w19 := by
      have e : (bc ((((outQ x k) ++ [B3 ([x.a, x.b, x.c, x.d].getD k 0)]) ++ [B2 ([x.a, x.b, x.c, x.d].getD k 0)]) ++ List.replicate (16 - (4 * k + 2)) 0)).setIfInBounds ((4 * k) + 2) (.int .u8 (((UInt8.ofNat (([x.a, x.b, x.c, x.d].getD k 0) >>> 8).toNat).toNat : Nat) : Int)) = bc (((((outQ x k) ++ [B3 ([x.a, x.b, x.c, x.d].getD k 0)]) ++ [B2 ([x.a, x.b, x.c, x.d].getD k 0)]) ++ [B1 ([x.a, x.b, x.c, x.d].getD k 0)]) ++ List.replicate (16 - (4 * k + 3)) 0) := (padb_put (((outQ x k) ++ [B3 ([x.a, x.b, x.c, x.d].getD k 0)]) ++ [B2 ([x.a, x.b, x.c, x.d].getD k 0)]) (16 - (4 * k + 2)) (16 - (4 * k + 3)) ((4 * k) + 2) (B1 ([x.a, x.b, x.c, x.d].getD k 0)) (ol2 x k _ _ ) (by omega))
      rw [← e]; exact h20
    clear h20
    refine wl_val (.pointer (some ⟨q7, (4 * k) + 3, none⟩)) (by kernel_rfl) (addr_eq (by omega) (run_addr_k (k := .i64) (q := q7) (o := 0) (a := (4 * k) + 3) (m := 1) Try.underlying37 (fun w => Try.sizeOf5 w) (by kernel_rfl) (by kernel_rfl) (by omega))) ?_
    refine wl_put (k := .u8) (z := (((UInt8.ofNat ([x.a, x.b, x.c, x.d].getD k 0).toNat).toNat : Nat) : Int)) h21 0 rfl ((4 * k) + 3) (by rw [bc_size, (ob_len (N := 16) (ol3 x k _ _ _ ) (by omega))]; omega) (by kernel_rfl) (fun w => Try.sizeOf5 w) (by kernel_rfl) (by kernel_rfl) ?_
    intro w22 h23
    have h24 : HA w [(q7, 37, bc ((((((outQ x k) ++ [B3 ([x.a, x.b, x.c, x.d].getD k 0)]) ++ [B2 ([x.a, x.b, x.c, x.d].getD k 0)]) ++ [B1 ([x.a, x.b, x.c, x.d].getD k 0)]) ++ [B0 ([x.a, x.b, x.c, x.d].getD k 0)]) ++ List.replicate (16 - (4 * k + 4)) 0)), (q4, 37, bc (List.replicate 16 0)), (q1, 40, qc x)] w22 := by
      have e : (bc (((((outQ x k) ++ [B3 ([x.a, x.b, x.c, x.d].getD k 0)]) ++ [B2 ([x.a, x.b, x.c, x.d].getD k 0)]) ++ [B1 ([x.a, x.b, x.c, x.d].getD k 0)]) ++ List.replicate (16 - (4 * k + 3)) 0)).setIfInBounds ((4 * k) + 3) (.int .u8 (((UInt8.ofNat ([x.a, x.b, x.c, x.d].getD k 0).toNat).toNat : Nat) : Int)) = bc ((((((outQ x k) ++ [B3 ([x.a, x.b, x.c, x.d].getD k 0)]) ++ [B2 ([x.a, x.b, x.c, x.d].getD k 0)]) ++ [B1 ([x.a, x.b, x.c, x.d].getD k 0)]) ++ [B0 ([x.a, x.b, x.c, x.d].getD k 0)]) ++ List.replicate (16 - (4 * k + 4)) 0) := (padb_put ((((outQ x k) ++ [B3 ([x.a, x.b, x.c, x.d].getD k 0)]) ++ [B2 ([x.a, x.b, x.c, x.d].getD k 0)]) ++ [B1 ([x.a, x.b, x.c, x.d].getD k 0)]) (16 - (4 * k + 3)) (16 - (4 * k + 4)) ((4 * k) + 3) (B0 ([x.a, x.b, x.c, x.d].getD k 0)) (ol3 x k _ _ _ ) (by omega))
      rw [← e]; exact h23
    clear h23
    refine wl_nil ?_
    refine block_normal ?_
    refine then_at (F := ⟨(.agg (qc x) :: pt q1 :: pt q4 :: pt q7 :: iN .i64 k :: bv .u32 ([x.a, x.b, x.c, x.d].getD k 0) :: pt q1 :: bv .u32 x.a :: .pointer (some ⟨q1, 1, none⟩) :: bv .u32 x.b :: .pointer (some ⟨q1, 2, none⟩) :: bv .u32 x.c :: .pointer (some ⟨q1, 3, none⟩) :: bv .u32 x.d :: .agg (qc x) :: iN .i64 k :: .bool true :: iN .i64 k :: bv .u32 ([x.a, x.b, x.c, x.d].getD k 0) :: iN .i64 k :: iN .i64 (4 * k) :: iN .i64 k :: iN .i64 (4 * k) :: iN .i64 ((4 * k) + 1) :: iN .i64 k :: iN .i64 (4 * k) :: iN .i64 ((4 * k) + 2) :: iN .i64 k :: iN .i64 (4 * k) :: iN .i64 ((4 * k) + 3) :: bv .u32 ([x.a, x.b, x.c, x.d].getD k 0) :: bv .u32 (([x.a, x.b, x.c, x.d].getD k 0) >>> 24) :: by8 (UInt8.ofNat (([x.a, x.b, x.c, x.d].getD k 0) >>> 24).toNat) :: bv .u32 ([x.a, x.b, x.c, x.d].getD k 0) :: bv .u32 (([x.a, x.b, x.c, x.d].getD k 0) >>> 16) :: by8 (UInt8.ofNat (([x.a, x.b, x.c, x.d].getD k 0) >>> 16).toNat) :: bv .u32 ([x.a, x.b, x.c, x.d].getD k 0) :: bv .u32 (([x.a, x.b, x.c, x.d].getD k 0) >>> 8) :: by8 (UInt8.ofNat (([x.a, x.b, x.c, x.d].getD k 0) >>> 8).toNat) :: bv .u32 ([x.a, x.b, x.c, x.d].getD k 0) :: by8 (UInt8.ofNat ([x.a, x.b, x.c, x.d].getD k 0).toNat) :: .pointer (some ⟨q7, 4 * k, none⟩) :: .pointer (some ⟨q7, (4 * k) + 1, none⟩) :: .pointer (some ⟨q7, (4 * k) + 2, none⟩) :: .pointer (some ⟨q7, (4 * k) + 3, none⟩) :: u10 45 :: List.replicate 1 un).toArray, []⟩) (by kernel_rfl) ?_
    -- region 6
    refine wl_region ?_
    refine wl_val (iN .i64 (k + 1)) (by kernel_rfl) (run_add (k := .i64) (a := k) (b := 1) (by kernel_rfl) (by kernel_rfl) (by simp only [top]; omega)) ?_
    refine wl_val (iN .i64 (k + 1)) (by kernel_rfl) (by kernel_rfl) ?_
    refine wl_nil ?_
    have eo : outQ x (k + 1) = (((outQ x k ++ [B3 ([x.a, x.b, x.c, x.d].getD k 0)]) ++ [B2 ([x.a, x.b, x.c, x.d].getD k 0)]) ++ [B1 ([x.a, x.b, x.c, x.d].getD k 0)]) ++ [B0 ([x.a, x.b, x.c, x.d].getD k 0)] := rfl
    rw [show 16 - (4 * k + 4) = 16 - 4 * (k + 1) by omega, ← eo] at h24
    exact then_I ⟨fun ii => (([(4, iN .i64 k), (5, bv .u32 ([x.a, x.b, x.c, x.d].getD k 0)), (16, .bool true), (17, iN .i64 k), (18, bv .u32 ([x.a, x.b, x.c, x.d].getD k 0)), (19, iN .i64 k), (20, iN .i64 (4 * k)), (21, iN .i64 k), (22, iN .i64 (4 * k)), (23, iN .i64 ((4 * k) + 1)), (24, iN .i64 k), (25, iN .i64 (4 * k)), (26, iN .i64 ((4 * k) + 2)), (27, iN .i64 k), (28, iN .i64 (4 * k)), (29, iN .i64 ((4 * k) + 3)), (30, bv .u32 ([x.a, x.b, x.c, x.d].getD k 0)), (31, bv .u32 (([x.a, x.b, x.c, x.d].getD k 0) >>> 24)), (32, by8 (UInt8.ofNat (([x.a, x.b, x.c, x.d].getD k 0) >>> 24).toNat)), (33, bv .u32 ([x.a, x.b, x.c, x.d].getD k 0)), (34, bv .u32 (([x.a, x.b, x.c, x.d].getD k 0) >>> 16)), (35, by8 (UInt8.ofNat (([x.a, x.b, x.c, x.d].getD k 0) >>> 16).toNat)), (36, bv .u32 ([x.a, x.b, x.c, x.d].getD k 0)), (37, bv .u32 (([x.a, x.b, x.c, x.d].getD k 0) >>> 8)), (38, by8 (UInt8.ofNat (([x.a, x.b, x.c, x.d].getD k 0) >>> 8).toNat)), (39, bv .u32 ([x.a, x.b, x.c, x.d].getD k 0)), (40, by8 (UInt8.ofNat ([x.a, x.b, x.c, x.d].getD k 0).toNat)), (41, .pointer (some ⟨q7, 4 * k, none⟩)), (42, .pointer (some ⟨q7, (4 * k) + 1, none⟩)), (43, .pointer (some ⟨q7, (4 * k) + 2, none⟩)), (44, .pointer (some ⟨q7, (4 * k) + 3, none⟩)), (45, iN .i64 (k + 1))] : List (Nat × Value)).find? (·.1 == ii)).elim undef (·.2), by kernel_rfl, h24⟩
  · rintro _ w25 ⟨u10, rfl, h26⟩
    refine wp_seq ?_
    -- region 3
    refine wl_region ?_
    refine wl_val (.bool false) (by kernel_rfl) (run_lss (k := .i64) (a := 4) (b := 4) (by kernel_rfl) (by kernel_rfl) false (by decide)) ?_
    refine wl_nil ?_
    refine then_at (F := ⟨(.agg (qc x) :: pt q1 :: pt q4 :: pt q7 :: u10 4 :: u10 5 :: pt q1 :: bv .u32 x.a :: .pointer (some ⟨q1, 1, none⟩) :: bv .u32 x.b :: .pointer (some ⟨q1, 2, none⟩) :: bv .u32 x.c :: .pointer (some ⟨q1, 3, none⟩) :: bv .u32 x.d :: .agg (qc x) :: iN .i64 4 :: .bool false :: u10 17 :: u10 18 :: u10 19 :: u10 20 :: u10 21 :: u10 22 :: u10 23 :: u10 24 :: u10 25 :: u10 26 :: u10 27 :: u10 28 :: u10 29 :: u10 30 :: u10 31 :: u10 32 :: u10 33 :: u10 34 :: u10 35 :: u10 36 :: u10 37 :: u10 38 :: u10 39 :: u10 40 :: u10 41 :: u10 42 :: u10 43 :: u10 44 :: u10 45 :: List.replicate 1 un).toArray, []⟩) (by kernel_rfl) ?_
    refine wp_seq ?_
    refine wp_cond_false (by kernel_rfl) ?_
    refine wp_exit ?_
    repeat first | refine then_exit ?_ | refine block_exit ?_ | refine block_exit_ne (by decide) ?_
    have h27 : HA w [(q7, 37, bc (outQ x 4)), (q4, 37, bc (List.replicate 16 0)), (q1, 40, qc x)] w25 := by
      have e : (outQ x 4) ++ List.replicate (16 - 4 * 4) 0 = outQ x 4 := (List.append_nil (outQ x 4))
      rw [e] at h26; exact h26
    clear h26
    refine then_at (F := ⟨(.agg (qc x) :: pt q1 :: pt q4 :: pt q7 :: u10 4 :: u10 5 :: pt q1 :: bv .u32 x.a :: .pointer (some ⟨q1, 1, none⟩) :: bv .u32 x.b :: .pointer (some ⟨q1, 2, none⟩) :: bv .u32 x.c :: .pointer (some ⟨q1, 3, none⟩) :: bv .u32 x.d :: .agg (qc x) :: iN .i64 4 :: .bool false :: u10 17 :: u10 18 :: u10 19 :: u10 20 :: u10 21 :: u10 22 :: u10 23 :: u10 24 :: u10 25 :: u10 26 :: u10 27 :: u10 28 :: u10 29 :: u10 30 :: u10 31 :: u10 32 :: u10 33 :: u10 34 :: u10 35 :: u10 36 :: u10 37 :: u10 38 :: u10 39 :: u10 40 :: u10 41 :: u10 42 :: u10 43 :: u10 44 :: u10 45 :: List.replicate 1 un).toArray, []⟩) (by kernel_rfl) ?_
    refine wp_seq ?_
    -- region 7
    refine wl_region ?_
    refine wl_load h27 0 rfl (by kernel_rfl) (by kernel_rfl) Try.underlying37 rfl (info37 (outQ x 4) (outQ_len x 4)) ?_
    refine wl_fill (c' := bc (outQ x 4)) h27 1 rfl (by kernel_rfl) (by kernel_rfl) (by kernel_rfl) (by rw [bc_size, bc_size, (outQ_len x 4), (List.length_replicate)]) (info37 (outQ x 4) (outQ_len x 4)) (one_bc (outQ x 4)) ?_
    intro w28 (h29 : HA w [(q7, 37, bc (outQ x 4)), (q4, 37, bc (outQ x 4)), (q1, 40, qc x)] w28)
    refine wl_nil ?_
    refine then_at (F := ⟨(.agg (qc x) :: pt q1 :: pt q4 :: pt q7 :: u10 4 :: u10 5 :: pt q1 :: bv .u32 x.a :: .pointer (some ⟨q1, 1, none⟩) :: bv .u32 x.b :: .pointer (some ⟨q1, 2, none⟩) :: bv .u32 x.c :: .pointer (some ⟨q1, 3, none⟩) :: bv .u32 x.d :: .agg (qc x) :: iN .i64 4 :: .bool false :: u10 17 :: u10 18 :: u10 19 :: u10 20 :: u10 21 :: u10 22 :: u10 23 :: u10 24 :: u10 25 :: u10 26 :: u10 27 :: u10 28 :: u10 29 :: u10 30 :: u10 31 :: u10 32 :: u10 33 :: u10 34 :: u10 35 :: u10 36 :: u10 37 :: u10 38 :: u10 39 :: u10 40 :: u10 41 :: u10 42 :: u10 43 :: u10 44 :: u10 45 :: .agg (bc (outQ x 4)) :: List.replicate 0 un).toArray, []⟩) (by kernel_rfl) ?_
    refine wp_ret ?_
    repeat first | refine then_ret ?_ | refine block_ret ?_
    exact bodyPost_ret (v := .agg (bc (outQ x 4))) (res_cell (p := 2) (by kernel_rfl) (by kernel_rfl) (h29.get 1 rfl) Try.underlying37 rfl (info37 (outQ x 4) (outQ_len x 4))) rfl ⟨rfl, h29.old⟩
end Go.Proofs.Ythljhhhjdajfhaa
