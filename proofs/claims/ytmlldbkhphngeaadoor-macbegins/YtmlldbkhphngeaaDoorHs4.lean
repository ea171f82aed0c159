/-
  the state's bytes, and what stands behind a text.
-/
import Derived.Test.YtmlldbkhphngeaaDoorHT
namespace Go.Proofs.YtmlldbkhphngeaaDoor
open Go.RowKit


def donS (st : List (BitVec 32)) (i j : Nat) : List UInt8 := outP st i ++ outW (st.getD i 0) j
theorem don_zeroS (st : List (BitVec 32)) (i : Nat) : donS st i 0 = outP st i := List.append_nil _
theorem don_lenS (st : List (BitVec 32)) (i j : Nat) : (donS st i j).length = 4 * i + j := by
  unfold donS
  rw [List.length_append, outP_len, outW_len, show 32 / 8 = 4 from rfl]
  omega
theorem out_lenS (st : List (BitVec 32)) (i : Nat) (hi : i ≤ 8) : (outP st i ++ List.replicate (32 - 4 * i) 0).length = 32 := by rw [padb_len, outP_len, show 32 / 8 = 4 from rfl]; omega
theorem donp_lenS (st : List (BitVec 32)) (i j : Nat) (hi : i < 8) (hj : j ≤ 4) : (donS st i j ++ List.replicate (32 - (4 * i + j)) 0).length = 32 := by rw [padb_len, don_lenS]; omega
theorem don_stepS (st : List (BitVec 32)) (i j : Nat) (hi : i < 8) (hj : j < 4) : laidOn (donS st i j ++ List.replicate (32 - (4 * i + j)) 0) (4 * i + j) [UInt8.ofNat ((st.getD i 0) >>> (32 - 8 * (j + 1))).toNat] = donS st i (j + 1) ++ List.replicate (32 - (4 * i + (j + 1))) 0 := by
  rw [app_pad _ _ _ _ (don_lenS st i j) (by omega)]
  unfold donS
  rw [outW, Nat.add_assoc]
  simp only [List.append_assoc]
theorem lay_endS (st : List (BitVec 32)) : (outP st 8 ++ List.replicate (32 - 4 * 8) 0).take (4 * 8) = outP st 8 := by
  rw [← show (outP st 8).length = 4 * 8 by rw [outP_len], List.take_left]

set_option linter.unusedVariables false in
set_option maxRecDepth 100000 in
set_option maxHeartbeats 2000000 in
theorem layS (st : List (BitVec 32)) (hst : st.length = 8) (w : World) :
    Calls Tryd.prog 35 #[.agg (wc .u32 st), iN .u64 32] w fun e w' => e = .returned (.string ⟨(outP st 8).toArray⟩) ∧ Below w.heap.size w w' := by
  have H0 := HA.start w
  go_enter Tryd.func35, Tryd.ntmps35
  refine wp_seq ?_
  -- region 0
  refine wl_region ?_
  refine wl_make H0 53 (by kernel_rfl) (run_box37 (c := wc .u32 st) (by kernel_rfl)) ?_
  intro q1 w2 h3
  refine wl_val (.string { data := #[] }) (by kernel_rfl) (by kernel_rfl) ?_
  refine wl_nil ?_
  refine then_at (F := ⟨(.agg (wc .u32 st) :: iN .u64 32 :: pt q1 :: un :: .string { data := #[] } :: List.replicate 29 un).toArray, []⟩) (by kernel_rfl) ?_
  refine wp_seq ?_
  -- region 1
  refine wl_region ?_
  refine wl_val (iN .u64 32) (by kernel_rfl) (by kernel_rfl) ?_
  refine wl_val (iN .u64 256) (by kernel_rfl) (run_mul (k := .u64) (a := 8) (b := 32) (by kernel_rfl) (by kernel_rfl) (by decide)) ?_
  refine wl_val (iN .u64 32) (by kernel_rfl) (run_quo (k := .u64) (a := 256) (b := 8) (by kernel_rfl) (by kernel_rfl) (by decide) (by decide)) ?_
  refine wl_mks (n := 0) (m := 32) h3 5 (by kernel_rfl) (run_mk (k := .u64) (m := 0) (c := 32) (by kernel_rfl) (by kernel_rfl) (by decide) (by decide)) ?_
  intro q4 w5 h6
  refine wl_val (.slice (some ⟨q4, 0, none⟩) 0 32) (by kernel_rfl) (by kernel_rfl) ?_
  refine wl_nil ?_
  refine then_at (F := ⟨(.agg (wc .u32 st) :: iN .u64 32 :: pt q1 :: un :: .string { data := #[] } :: .slice (some ⟨q4, 0, none⟩) 0 32 :: un :: un :: un :: iN .u64 32 :: iN .u64 256 :: iN .u64 32 :: .slice (some ⟨q4, 0, none⟩) 0 32 :: List.replicate 21 un).toArray, []⟩) (by kernel_rfl) ?_
  refine wp_seq ?_
  refine wp_seq ?_
  -- region 2
  refine wl_region ?_
  refine wl_load h6 1 rfl (by kernel_rfl) (by kernel_rfl) Tryd.underlying53 rfl (info37 .u32 st hst) ?_
  refine wl_val (iN .i64 0) (by kernel_rfl) (by kernel_rfl) ?_
  refine wl_nil ?_
  refine then_at (F := ⟨(.agg (wc .u32 st) :: iN .u64 32 :: pt q1 :: un :: .string { data := #[] } :: .slice (some ⟨q4, 0, none⟩) 0 32 :: un :: un :: un :: iN .u64 32 :: iN .u64 256 :: iN .u64 32 :: .slice (some ⟨q4, 0, none⟩) 0 32 :: .agg (wc .u32 st) :: iN .i64 0 :: List.replicate 19 un).toArray, []⟩) (by kernel_rfl) ?_
  refine wp_block ?_
  refine wp_count (fun k A w' => ∃ u7 : Nat → Value, A = ⟨(.agg (wc .u32 st) :: iN .u64 32 :: pt q1 :: un :: .string { data := #[] } :: .slice (some ⟨q4, 0, none⟩) (4 * k) 32 :: un :: u7 7 :: u7 8 :: iN .u64 32 :: iN .u64 256 :: iN .u64 32 :: .slice (some ⟨q4, 0, none⟩) 0 32 :: .agg (wc .u32 st) :: iN .i64 k :: u7 15 :: u7 16 :: u7 17 :: u7 18 :: u7 19 :: u7 20 :: u7 21 :: u7 22 :: u7 23 :: u7 24 :: u7 25 :: u7 26 :: u7 27 :: u7 28 :: u7 29 :: u7 30 :: u7 31 :: List.replicate 2 un).toArray, []⟩ ∧ HA w [(q4, 5, bc (outP st k ++ List.replicate (32 - 4 * k) 0)), (q1, 53, wc .u32 st)] w') 8 ?_ ?_ ?_
  · exact ⟨fun ii => (([(7, undef), (8, undef), (15, undef), (16, undef), (17, undef), (18, undef), (19, undef), (20, undef), (21, undef), (22, undef), (23, undef), (24, undef), (25, undef), (26, undef), (27, undef), (28, undef), (29, undef), (30, undef), (31, undef)] : List (Nat × Value)).find? (·.1 == ii)).elim undef (·.2), by kernel_rfl, h6⟩
  · rintro k hk _ w8 ⟨u7, rfl, h9⟩
    refine wp_seq ?_
    -- region 3
    refine wl_region ?_
    refine wl_val (.bool true) (by kernel_rfl) (run_lss (k := .i64) (a := k) (b := 8) (by kernel_rfl) (by kernel_rfl) true (decide_eq_true hk)) ?_
    refine wl_nil ?_
    refine then_at (F := ⟨(.agg (wc .u32 st) :: iN .u64 32 :: pt q1 :: un :: .string { data := #[] } :: .slice (some ⟨q4, 0, none⟩) (4 * k) 32 :: un :: u7 7 :: u7 8 :: iN .u64 32 :: iN .u64 256 :: iN .u64 32 :: .slice (some ⟨q4, 0, none⟩) 0 32 :: .agg (wc .u32 st) :: iN .i64 k :: .bool true :: u7 16 :: u7 17 :: u7 18 :: u7 19 :: u7 20 :: u7 21 :: u7 22 :: u7 23 :: u7 24 :: u7 25 :: u7 26 :: u7 27 :: u7 28 :: u7 29 :: u7 30 :: u7 31 :: List.replicate 2 un).toArray, []⟩) (by kernel_rfl) ?_
    refine wp_seq ?_
    refine wp_cond_true (by kernel_rfl) ?_
    refine wp_skip ?_
    refine then_at (F := ⟨(.agg (wc .u32 st) :: iN .u64 32 :: pt q1 :: un :: .string { data := #[] } :: .slice (some ⟨q4, 0, none⟩) (4 * k) 32 :: un :: u7 7 :: u7 8 :: iN .u64 32 :: iN .u64 256 :: iN .u64 32 :: .slice (some ⟨q4, 0, none⟩) 0 32 :: .agg (wc .u32 st) :: iN .i64 k :: .bool true :: u7 16 :: u7 17 :: u7 18 :: u7 19 :: u7 20 :: u7 21 :: u7 22 :: u7 23 :: u7 24 :: u7 25 :: u7 26 :: u7 27 :: u7 28 :: u7 29 :: u7 30 :: u7 31 :: List.replicate 2 un).toArray, []⟩) (by kernel_rfl) ?_
    refine wp_seq ?_
    refine wp_block ?_
    refine wp_seq ?_
    -- region 4
    refine wl_region ?_
    refine wl_val (bv .u32 (st.getD k 0)) (by kernel_rfl) (run_index37 (i := k) (by kernel_rfl) (by kernel_rfl) (by omega) (wc_get .u32 st k (by rw [hst]; omega))) ?_
    refine wl_val (bv .u32 (st.getD k 0)) (by kernel_rfl) (by kernel_rfl) ?_
    refine wl_nil ?_
    refine then_at (F := ⟨(.agg (wc .u32 st) :: iN .u64 32 :: pt q1 :: un :: .string { data := #[] } :: .slice (some ⟨q4, 0, none⟩) (4 * k) 32 :: un :: bv .u32 (st.getD k 0) :: u7 8 :: iN .u64 32 :: iN .u64 256 :: iN .u64 32 :: .slice (some ⟨q4, 0, none⟩) 0 32 :: .agg (wc .u32 st) :: iN .i64 k :: .bool true :: bv .u32 (st.getD k 0) :: u7 17 :: u7 18 :: u7 19 :: u7 20 :: u7 21 :: u7 22 :: u7 23 :: u7 24 :: u7 25 :: u7 26 :: u7 27 :: u7 28 :: u7 29 :: u7 30 :: u7 31 :: List.replicate 2 un).toArray, []⟩) (by kernel_rfl) ?_
    refine wp_seq ?_
    -- region 5
    refine wl_region ?_
    refine wl_val (iN .u64 8) (by kernel_rfl) (by kernel_rfl) ?_
    refine wl_nil ?_
    refine then_at (F := ⟨(.agg (wc .u32 st) :: iN .u64 32 :: pt q1 :: un :: .string { data := #[] } :: .slice (some ⟨q4, 0, none⟩) (4 * k) 32 :: un :: bv .u32 (st.getD k 0) :: iN .u64 8 :: iN .u64 32 :: iN .u64 256 :: iN .u64 32 :: .slice (some ⟨q4, 0, none⟩) 0 32 :: .agg (wc .u32 st) :: iN .i64 k :: .bool true :: bv .u32 (st.getD k 0) :: u7 17 :: u7 18 :: u7 19 :: u7 20 :: u7 21 :: u7 22 :: u7 23 :: u7 24 :: u7 25 :: u7 26 :: u7 27 :: u7 28 :: u7 29 :: u7 30 :: u7 31 :: List.replicate 2 un).toArray, []⟩) (by kernel_rfl) ?_
    refine wp_block ?_
    refine wp_count (fun j A w' => ∃ u10 : Nat → Value, A = ⟨(.agg (wc .u32 st) :: iN .u64 32 :: pt q1 :: un :: .string { data := #[] } :: .slice (some ⟨q4, 0, none⟩) (4 * k + j) 32 :: un :: bv .u32 (st.getD k 0) :: iN .u64 (8 * (j + 1)) :: iN .u64 32 :: iN .u64 256 :: iN .u64 32 :: .slice (some ⟨q4, 0, none⟩) 0 32 :: .agg (wc .u32 st) :: iN .i64 k :: .bool true :: bv .u32 (st.getD k 0) :: u10 17 :: u10 18 :: u10 19 :: u10 20 :: u10 21 :: u10 22 :: u10 23 :: u10 24 :: u10 25 :: u10 26 :: u10 27 :: u10 28 :: u10 29 :: u10 30 :: u7 31 :: List.replicate 2 un).toArray, []⟩ ∧ HA w [(q4, 5, bc (donS st k j ++ List.replicate (32 - (4 * k + j)) 0)), (q1, 53, wc .u32 st)] w') 4 ?_ ?_ ?_
    · exact ⟨fun ii => (([(17, u7 17), (18, u7 18), (19, u7 19), (20, u7 20), (21, u7 21), (22, u7 22), (23, u7 23), (24, u7 24), (25, u7 25), (26, u7 26), (27, u7 27), (28, u7 28), (29, u7 29), (30, u7 30)] : List (Nat × Value)).find? (·.1 == ii)).elim undef (·.2), by kernel_rfl, (by rw [don_zeroS st k]; exact h9)⟩
    · rintro j hj _ w11 ⟨u10, rfl, h12⟩
      refine wp_seq ?_
      refine wp_seq ?_
      -- region 6
      refine wl_region ?_
      refine wl_val (iN .u64 (8 * (j + 1))) (by kernel_rfl) (by kernel_rfl) ?_
      refine wl_val (iN .u64 32) (by kernel_rfl) (by kernel_rfl) ?_
      refine wl_val (.bool true) (by kernel_rfl) (run_leq (k := .u64) (a := 8 * (j + 1)) (b := 32) (by kernel_rfl) (by kernel_rfl) true (decide_eq_true (by omega))) ?_
      refine wl_nil ?_
      refine then_at (F := ⟨(.agg (wc .u32 st) :: iN .u64 32 :: pt q1 :: un :: .string { data := #[] } :: .slice (some ⟨q4, 0, none⟩) (4 * k + j) 32 :: un :: bv .u32 (st.getD k 0) :: iN .u64 (8 * (j + 1)) :: iN .u64 32 :: iN .u64 256 :: iN .u64 32 :: .slice (some ⟨q4, 0, none⟩) 0 32 :: .agg (wc .u32 st) :: iN .i64 k :: .bool true :: bv .u32 (st.getD k 0) :: iN .u64 (8 * (j + 1)) :: iN .u64 32 :: .bool true :: u10 20 :: u10 21 :: u10 22 :: u10 23 :: u10 24 :: u10 25 :: u10 26 :: u10 27 :: u10 28 :: u10 29 :: u10 30 :: u7 31 :: List.replicate 2 un).toArray, []⟩) (by kernel_rfl) ?_
      refine wp_cond_true (by kernel_rfl) ?_
      refine wp_skip ?_
      refine then_at (F := ⟨(.agg (wc .u32 st) :: iN .u64 32 :: pt q1 :: un :: .string { data := #[] } :: .slice (some ⟨q4, 0, none⟩) (4 * k + j) 32 :: un :: bv .u32 (st.getD k 0) :: iN .u64 (8 * (j + 1)) :: iN .u64 32 :: iN .u64 256 :: iN .u64 32 :: .slice (some ⟨q4, 0, none⟩) 0 32 :: .agg (wc .u32 st) :: iN .i64 k :: .bool true :: bv .u32 (st.getD k 0) :: iN .u64 (8 * (j + 1)) :: iN .u64 32 :: .bool true :: u10 20 :: u10 21 :: u10 22 :: u10 23 :: u10 24 :: u10 25 :: u10 26 :: u10 27 :: u10 28 :: u10 29 :: u10 30 :: u7 31 :: List.replicate 2 un).toArray, []⟩) (by kernel_rfl) ?_
      refine wp_seq ?_
      refine wp_block ?_
      -- region 8
      refine wl_region ?_
      refine wl_val (.slice (some ⟨q4, 0, none⟩) (4 * k + j) 32) (by kernel_rfl) (by kernel_rfl) ?_
      refine wl_val (bv .u32 (st.getD k 0)) (by kernel_rfl) (by kernel_rfl) ?_
      refine wl_val (iN .u64 32) (by kernel_rfl) (by kernel_rfl) ?_
      refine wl_val (iN .u64 (8 * (j + 1))) (by kernel_rfl) (by kernel_rfl) ?_
      refine wl_val (iN .u64 (32 - (8 * (j + 1)))) (by kernel_rfl) (run_sub (k := .u64) (a := 32) (b := 8 * (j + 1)) (by kernel_rfl) (by kernel_rfl) (by omega) (by simp only [top]; omega)) ?_
      refine wl_val (bv .u32 ((st.getD k 0) >>> (32 - (8 * (j + 1))))) (by kernel_rfl) (run_shrv (k2 := .u64) (m := 32 - (8 * (j + 1))) WK.s (a := st.getD k 0) (by kernel_rfl) (by kernel_rfl)) ?_
      refine wl_val (by8 (UInt8.ofNat ((st.getD k 0) >>> (32 - (8 * (j + 1)))).toNat)) (by kernel_rfl) (run_low (a := (st.getD k 0) >>> (32 - (8 * (j + 1)))) (by kernel_rfl) Tryd.underlying48 Tryd.underlying5) ?_
      refine wl_mks (n := 1) (m := 1) h12 5 (by kernel_rfl) (run_build1 (u := UInt8.ofNat ((st.getD k 0) >>> (32 - (8 * (j + 1)))).toNat) (by kernel_rfl)) ?_
      intro q13 w14 h15
      refine wl_app (q := q4) (r := q13) (m := 4 * k + j) (c := 32) (j := 1) (c2 := 1) (l := donS st k j ++ List.replicate (32 - (4 * k + j)) 0) (n := [UInt8.ofNat ((st.getD k 0) >>> (32 - (8 * (j + 1)))).toNat]) (l' := donS st k (j + 1) ++ List.replicate (32 - (4 * k + (j + 1))) 0) h15 1 0 rfl rfl (by kernel_rfl) (by kernel_rfl) (by kernel_rfl) rfl (by omega) (donp_lenS st k j hk (by omega)) (don_stepS st k j hk hj) ?_
      intro w16 (h17 : HA w [(q13, 5, bc ([UInt8.ofNat ((st.getD k 0) >>> (32 - (8 * (j + 1)))).toNat])), (q4, 5, bc (donS st k (j + 1) ++ List.replicate (32 - (4 * k + (j + 1))) 0)), (q1, 53, wc .u32 st)] w16)
      have h18 : HA w [(q4, 5, bc (donS st k (j + 1) ++ List.replicate (32 - (4 * k + (j + 1))) 0)), (q1, 53, wc .u32 st)] w16 := h17.tl
      clear h17
      refine wl_val (.slice (some ⟨q4, 0, none⟩) (4 * k + j + 1) 32) (by kernel_rfl) (by kernel_rfl) ?_
      refine wl_nil ?_
      refine block_normal ?_
      refine then_at (F := ⟨(.agg (wc .u32 st) :: iN .u64 32 :: pt q1 :: un :: .string { data := #[] } :: .slice (some ⟨q4, 0, none⟩) (4 * k + j + 1) 32 :: un :: bv .u32 (st.getD k 0) :: iN .u64 (8 * (j + 1)) :: iN .u64 32 :: iN .u64 256 :: iN .u64 32 :: .slice (some ⟨q4, 0, none⟩) 0 32 :: .agg (wc .u32 st) :: iN .i64 k :: .bool true :: bv .u32 (st.getD k 0) :: iN .u64 (8 * (j + 1)) :: iN .u64 32 :: .bool true :: u10 20 :: u10 21 :: .slice (some ⟨q4, 0, none⟩) (4 * k + j) 32 :: bv .u32 (st.getD k 0) :: iN .u64 32 :: iN .u64 (8 * (j + 1)) :: iN .u64 (32 - (8 * (j + 1))) :: bv .u32 ((st.getD k 0) >>> (32 - (8 * (j + 1)))) :: by8 (UInt8.ofNat ((st.getD k 0) >>> (32 - (8 * (j + 1)))).toNat) :: .slice (some ⟨q13, 0, none⟩) 1 1 :: .slice (some ⟨q4, 0, none⟩) (4 * k + j + 1) 32 :: u7 31 :: List.replicate 2 un).toArray, []⟩) (by kernel_rfl) ?_
      -- region 7
      refine wl_region ?_
      refine wl_val (iN .u64 (8 * (j + 1))) (by kernel_rfl) (by kernel_rfl) ?_
      refine wl_val (iN .u64 ((8 * (j + 1)) + 8)) (by kernel_rfl) (run_add (k := .u64) (a := 8 * (j + 1)) (b := 8) (by kernel_rfl) (by kernel_rfl) (by simp only [top]; omega)) ?_
      refine wl_val (iN .u64 ((8 * (j + 1)) + 8)) (by kernel_rfl) (by kernel_rfl) ?_
      refine wl_nil ?_
      exact then_I ⟨fun ii => (([(17, iN .u64 (8 * (j + 1))), (18, iN .u64 32), (19, .bool true), (20, iN .u64 (8 * (j + 1))), (21, iN .u64 ((8 * (j + 1)) + 8)), (22, .slice (some ⟨q4, 0, none⟩) (4 * k + j) 32), (23, bv .u32 (st.getD k 0)), (24, iN .u64 32), (25, iN .u64 (8 * (j + 1))), (26, iN .u64 (32 - (8 * (j + 1)))), (27, bv .u32 ((st.getD k 0) >>> (32 - (8 * (j + 1))))), (28, by8 (UInt8.ofNat ((st.getD k 0) >>> (32 - (8 * (j + 1)))).toNat)), (29, .slice (some ⟨q13, 0, none⟩) 1 1), (30, .slice (some ⟨q4, 0, none⟩) (4 * k + j + 1) 32)] : List (Nat × Value)).find? (·.1 == ii)).elim undef (·.2), by kernel_rfl, h18⟩
    · rintro _ w19 ⟨u10, rfl, h20⟩
      refine wp_seq ?_
      refine wp_seq ?_
      -- region 6
      refine wl_region ?_
      refine wl_val (iN .u64 (8 * (4 + 1))) (by kernel_rfl) (by kernel_rfl) ?_
      refine wl_val (iN .u64 32) (by kernel_rfl) (by kernel_rfl) ?_
      refine wl_val (.bool false) (by kernel_rfl) (run_leq (k := .u64) (a := 8 * (4 + 1)) (b := 32) (by kernel_rfl) (by kernel_rfl) false (by decide)) ?_
      refine wl_nil ?_
      refine then_at (F := ⟨(.agg (wc .u32 st) :: iN .u64 32 :: pt q1 :: un :: .string { data := #[] } :: .slice (some ⟨q4, 0, none⟩) (4 * k + 4) 32 :: un :: bv .u32 (st.getD k 0) :: iN .u64 (8 * (4 + 1)) :: iN .u64 32 :: iN .u64 256 :: iN .u64 32 :: .slice (some ⟨q4, 0, none⟩) 0 32 :: .agg (wc .u32 st) :: iN .i64 k :: .bool true :: bv .u32 (st.getD k 0) :: iN .u64 (8 * (4 + 1)) :: iN .u64 32 :: .bool false :: u10 20 :: u10 21 :: u10 22 :: u10 23 :: u10 24 :: u10 25 :: u10 26 :: u10 27 :: u10 28 :: u10 29 :: u10 30 :: u7 31 :: List.replicate 2 un).toArray, []⟩) (by kernel_rfl) ?_
      refine wp_cond_false (by kernel_rfl) ?_
      refine wp_exit ?_
      repeat first | refine then_exit ?_ | refine block_exit ?_ | refine block_exit_ne (by decide) ?_
      refine block_normal ?_
      refine then_at (F := ⟨(.agg (wc .u32 st) :: iN .u64 32 :: pt q1 :: un :: .string { data := #[] } :: .slice (some ⟨q4, 0, none⟩) (4 * k + 4) 32 :: un :: bv .u32 (st.getD k 0) :: iN .u64 (8 * (4 + 1)) :: iN .u64 32 :: iN .u64 256 :: iN .u64 32 :: .slice (some ⟨q4, 0, none⟩) 0 32 :: .agg (wc .u32 st) :: iN .i64 k :: .bool true :: bv .u32 (st.getD k 0) :: iN .u64 (8 * (4 + 1)) :: iN .u64 32 :: .bool false :: u10 20 :: u10 21 :: u10 22 :: u10 23 :: u10 24 :: u10 25 :: u10 26 :: u10 27 :: u10 28 :: u10 29 :: u10 30 :: u7 31 :: List.replicate 2 un).toArray, []⟩) (by kernel_rfl) ?_
      -- region 9
      refine wl_region ?_
      refine wl_val (iN .i64 (k + 1)) (by kernel_rfl) (run_add (k := .i64) (a := k) (b := 1) (by kernel_rfl) (by kernel_rfl) (by simp only [top]; omega)) ?_
      refine wl_val (iN .i64 (k + 1)) (by kernel_rfl) (by kernel_rfl) ?_
      refine wl_nil ?_
      exact then_I ⟨fun ii => (([(7, bv .u32 (st.getD k 0)), (8, iN .u64 (8 * (4 + 1))), (15, .bool true), (16, bv .u32 (st.getD k 0)), (17, iN .u64 (8 * (4 + 1))), (18, iN .u64 32), (19, .bool false), (20, u10 20), (21, u10 21), (22, u10 22), (23, u10 23), (24, u10 24), (25, u10 25), (26, u10 26), (27, u10 27), (28, u10 28), (29, u10 29), (30, u10 30), (31, iN .i64 (k + 1))] : List (Nat × Value)).find? (·.1 == ii)).elim undef (·.2), by kernel_rfl, h20⟩
  · rintro _ w21 ⟨u7, rfl, h22⟩
    refine wp_seq ?_
    -- region 3
    refine wl_region ?_
    refine wl_val (.bool false) (by kernel_rfl) (run_lss (k := .i64) (a := 8) (b := 8) (by kernel_rfl) (by kernel_rfl) false (by decide)) ?_
    refine wl_nil ?_
    refine then_at (F := ⟨(.agg (wc .u32 st) :: iN .u64 32 :: pt q1 :: un :: .string { data := #[] } :: .slice (some ⟨q4, 0, none⟩) (4 * 8) 32 :: un :: u7 7 :: u7 8 :: iN .u64 32 :: iN .u64 256 :: iN .u64 32 :: .slice (some ⟨q4, 0, none⟩) 0 32 :: .agg (wc .u32 st) :: iN .i64 8 :: .bool false :: u7 16 :: u7 17 :: u7 18 :: u7 19 :: u7 20 :: u7 21 :: u7 22 :: u7 23 :: u7 24 :: u7 25 :: u7 26 :: u7 27 :: u7 28 :: u7 29 :: u7 30 :: u7 31 :: List.replicate 2 un).toArray, []⟩) (by kernel_rfl) ?_
    refine wp_seq ?_
    refine wp_cond_false (by kernel_rfl) ?_
    refine wp_exit ?_
    repeat first | refine then_exit ?_ | refine block_exit ?_ | refine block_exit_ne (by decide) ?_
    refine then_at (F := ⟨(.agg (wc .u32 st) :: iN .u64 32 :: pt q1 :: un :: .string { data := #[] } :: .slice (some ⟨q4, 0, none⟩) (4 * 8) 32 :: un :: u7 7 :: u7 8 :: iN .u64 32 :: iN .u64 256 :: iN .u64 32 :: .slice (some ⟨q4, 0, none⟩) 0 32 :: .agg (wc .u32 st) :: iN .i64 8 :: .bool false :: u7 16 :: u7 17 :: u7 18 :: u7 19 :: u7 20 :: u7 21 :: u7 22 :: u7 23 :: u7 24 :: u7 25 :: u7 26 :: u7 27 :: u7 28 :: u7 29 :: u7 30 :: u7 31 :: List.replicate 2 un).toArray, []⟩) (by kernel_rfl) ?_
    refine wp_seq ?_
    -- region 10
    refine wl_region ?_
    refine wl_val (.slice (some ⟨q4, 0, none⟩) (4 * 8) 32) (by kernel_rfl) (by kernel_rfl) ?_
    refine wl_val (.string (⟨((outP st 8 ++ List.replicate (32 - 4 * 8) 0).take (4 * 8)).toArray⟩)) (by kernel_rfl) (run_text (q := q4) (m := 4 * 8) (c := 32) (l := outP st 8 ++ List.replicate (32 - 4 * 8) 0) (by kernel_rfl) (h22.get 0 rfl) (by rw [(out_lenS st 8 (by omega))]; omega)) ?_
    refine wl_val (.string (⟨((outP st 8 ++ List.replicate (32 - 4 * 8) 0).take (4 * 8)).toArray⟩)) (by kernel_rfl) (by kernel_rfl) ?_
    refine wl_nil ?_
    refine then_at (F := ⟨(.agg (wc .u32 st) :: iN .u64 32 :: pt q1 :: un :: .string (⟨((outP st 8 ++ List.replicate (32 - 4 * 8) 0).take (4 * 8)).toArray⟩) :: .slice (some ⟨q4, 0, none⟩) (4 * 8) 32 :: un :: u7 7 :: u7 8 :: iN .u64 32 :: iN .u64 256 :: iN .u64 32 :: .slice (some ⟨q4, 0, none⟩) 0 32 :: .agg (wc .u32 st) :: iN .i64 8 :: .bool false :: u7 16 :: u7 17 :: u7 18 :: u7 19 :: u7 20 :: u7 21 :: u7 22 :: u7 23 :: u7 24 :: u7 25 :: u7 26 :: u7 27 :: u7 28 :: u7 29 :: u7 30 :: u7 31 :: .slice (some ⟨q4, 0, none⟩) (4 * 8) 32 :: .string (⟨((outP st 8 ++ List.replicate (32 - 4 * 8) 0).take (4 * 8)).toArray⟩) :: List.replicate 0 un).toArray, []⟩) (by kernel_rfl) ?_
    refine wp_ret ?_
    repeat first | refine then_ret ?_ | refine block_ret ?_
    exact bodyPost_ret (v := .string ⟨((outP st 8 ++ List.replicate (32 - 4 * 8) 0).take (4 * 8)).toArray⟩) (by kernel_rfl) rfl ⟨by rw [lay_endS st], h22.old⟩

theorem gapS (size : Nat) : gapP KS size = 63 - (size + 9 - 1) % 64 := rfl
theorem gap_leS (size : Nat) : gapP KS size ≤ 63 := Nat.sub_le _ _
def fpS (size i : Nat) : List UInt8 := (128 :: List.replicate (gapP KS size) 0) ++ beP 8 (8 * size) i
theorem fp_lenS (size i : Nat) : (fpS size i).length = 1 + gapP KS size + i := by unfold fpS; rw [List.length_append, List.length_cons, List.length_replicate, beP_len]; omega
theorem fpp_lenS (size i : Nat) (hi : i ≤ 8) : (fpS size i ++ List.replicate (9 + gapP KS size - (1 + gapP KS size + i)) 0).length = 9 + gapP KS size := by rw [padb_len, fp_lenS]; omega
theorem fp_startS (size : Nat) : (bc (List.replicate (9 + gapP KS size) 0)).setIfInBounds 0 (.int .u8 ((128 : Nat) : Int)) = bc (fpS size 0 ++ List.replicate (9 + gapP KS size - (1 + gapP KS size + 0)) 0) := by
  have e : List.replicate (9 + gapP KS size) (0 : UInt8) = 0 :: (List.replicate (gapP KS size) 0 ++ List.replicate 8 0) := by
    rw [List.replicate_append_replicate, ← List.replicate_succ]; congr 1; omega
  rw [e, show 9 + gapP KS size - (1 + gapP KS size + 0) = 8 by omega]
  unfold bc fpS beP
  simp only [List.map_cons, List.setIfInBounds_toArray, List.set_cons_zero, List.append_nil, List.cons_append]
  rfl
theorem fp_stepS (size i : Nat) (hi : i < 8) : laidOn (fpS size i ++ List.replicate (9 + gapP KS size - (1 + gapP KS size + i)) 0) (1 + gapP KS size + i) [UInt8.ofNat (8 * size / 2 ^ (8 * (7 - i)))] = fpS size (i + 1) ++ List.replicate (9 + gapP KS size - (1 + gapP KS size + (i + 1))) 0 := by
  rw [app_pad _ _ _ _ (fp_lenS size i) (by omega)]
  unfold fpS
  rw [beP, Nat.add_assoc]
  simp only [List.append_assoc, Nat.reduceSub]
theorem fp_endS (size : Nat) : (fpS size 8 ++ List.replicate (9 + gapP KS size - (1 + gapP KS size + 8)) 0).take (1 + gapP KS size + 8) = fillP KS size := by
  rw [← fp_lenS size 8, List.take_left]
  rfl

set_option linter.unusedVariables false in
set_option maxRecDepth 100000 in
set_option maxHeartbeats 2000000 in
theorem fillS (size : Nat) (hs : size ≤ 2251799813685248) (w : World) :
    Calls Tryd.prog 34 #[.agg kcS, iN .i64 size] w fun e w' => e = .returned (.string ⟨(fillP KS size).toArray⟩) ∧ Below w.heap.size w w' := by
  have hg := gap_leS size
  have H0 := HA.start w
  go_enter Tryd.func34, Tryd.ntmps34
  refine wp_seq ?_
  -- region 0
  refine wl_region ?_
  refine wl_make H0 52 (by kernel_rfl) (run_box36 (c := kcS) (by kernel_rfl)) ?_
  intro q1 w2 h3
  refine wl_val (.string { data := #[] }) (by kernel_rfl) (by kernel_rfl) ?_
  refine wl_nil ?_
  refine then_at (F := ⟨(.agg kcS :: iN .i64 size :: pt q1 :: un :: .string { data := #[] } :: List.replicate 50 un).toArray, []⟩) (by kernel_rfl) ?_
  refine wp_seq ?_
  -- region 1
  refine wl_region ?_
  refine wl_val (.pointer (some ⟨q1, 3, none⟩)) (by kernel_rfl) (by kernel_rfl) ?_
  refine wl_val (iN .i64 8) (by kernel_rfl) (run_load1 (fun w => Tryd.isAgg3 w) (by kernel_rfl) (((h3.get 0 rfl).cell 3).trans (by kernel_rfl))) ?_
  refine wl_val (iN .i64 9) (by kernel_rfl) (run_add (k := .i64) (a := 1) (b := 8) (by kernel_rfl) (by kernel_rfl) (by decide)) ?_
  refine wl_val (iN .i64 9) (by kernel_rfl) (by kernel_rfl) ?_
  refine wl_nil ?_
  refine then_at (F := ⟨(.agg kcS :: iN .i64 size :: pt q1 :: un :: .string { data := #[] } :: iN .i64 9 :: un :: un :: un :: un :: .pointer (some ⟨q1, 3, none⟩) :: iN .i64 8 :: iN .i64 9 :: List.replicate 42 un).toArray, []⟩) (by kernel_rfl) ?_
  refine wp_seq ?_
  -- region 2
  refine wp_region_sure ⟨(.agg kcS :: iN .i64 size :: pt q1 :: un :: .string { data := #[] } :: iN .i64 9 :: iN .i64 (gapP KS size) :: un :: un :: un :: .pointer (some ⟨q1, 3, none⟩) :: iN .i64 8 :: iN .i64 9 :: .pointer (some ⟨q1, 1, none⟩) :: iN .i64 64 :: iN .i64 63 :: iN .i64 size :: iN .i64 9 :: iN .i64 (size + 9) :: iN .i64 ((size + 9) - 1) :: .pointer (some ⟨q1, 1, none⟩) :: iN .i64 64 :: iN .i64 (((size + 9) - 1) % 64) :: iN .i64 (gapP KS size) :: List.replicate 31 un).toArray, []⟩ (HA w [(q1, 52, kcS)]) [.pointer (some ⟨q1, 1, none⟩), iN .i64 64, iN .i64 63, iN .i64 size, iN .i64 9, iN .i64 (size + 9), iN .i64 ((size + 9) - 1), .pointer (some ⟨q1, 1, none⟩), iN .i64 64, iN .i64 (((size + 9) - 1) % 64), iN .i64 (gapP KS size), iN .i64 (gapP KS size)] (by kernel_rfl) (by kernel_rfl) (by kernel_rfl) (by kernel_rfl) (fun _ _ _ h => h) h3.drew ?_ ?_
  · refine AllSure.cons (OpSure.take (v := .pointer (some ⟨q1, 1, none⟩)) (by kernel_rfl) (by kernel_rfl) (fun _ _ => (by kernel_rfl))) ?_
    refine AllSure.cons (OpSure.take (v := iN .i64 64) (by kernel_rfl) (by kernel_rfl) (fun _ h => run_load1 (fun w => Tryd.isAgg3 w) (by kernel_rfl) (((h.get 0 rfl).cell 1).trans (by kernel_rfl)))) ?_
    refine AllSure.cons (OpSure.take (v := iN .i64 63) (by kernel_rfl) (by kernel_rfl) (fun _ _ => (run_sub (k := .i64) (a := 64) (b := 1) (by kernel_rfl) (by kernel_rfl) (by decide) (by decide)))) ?_
    refine AllSure.cons (OpSure.take (v := iN .i64 size) (by kernel_rfl) (by kernel_rfl) (fun _ _ => (by kernel_rfl))) ?_
    refine AllSure.cons (OpSure.take (v := iN .i64 9) (by kernel_rfl) (by kernel_rfl) (fun _ _ => (by kernel_rfl))) ?_
    refine AllSure.cons (OpSure.take (v := iN .i64 (size + 9)) (by kernel_rfl) (by kernel_rfl) (fun _ _ => (run_add (k := .i64) (a := size) (b := 9) (by kernel_rfl) (by kernel_rfl) (by simp only [top]; omega)))) ?_
    refine AllSure.cons (OpSure.take (v := iN .i64 ((size + 9) - 1)) (by kernel_rfl) (by kernel_rfl) (fun _ _ => (run_sub (k := .i64) (a := size + 9) (b := 1) (by kernel_rfl) (by kernel_rfl) (by omega) (by simp only [top]; omega)))) ?_
    refine AllSure.cons (OpSure.take (v := .pointer (some ⟨q1, 1, none⟩)) (by kernel_rfl) (by kernel_rfl) (fun _ _ => (by kernel_rfl))) ?_
    refine AllSure.cons (OpSure.take (v := iN .i64 64) (by kernel_rfl) (by kernel_rfl) (fun _ h => run_load1 (fun w => Tryd.isAgg3 w) (by kernel_rfl) (((h.get 0 rfl).cell 1).trans (by kernel_rfl)))) ?_
    refine AllSure.cons (OpSure.take (v := iN .i64 (((size + 9) - 1) % 64)) (by kernel_rfl) (by kernel_rfl) (fun _ _ => (run_rem (k := .i64) (a := (size + 9) - 1) (b := 64) (by kernel_rfl) (by kernel_rfl) (by omega)))) ?_
    refine AllSure.cons (OpSure.take (v := iN .i64 (gapP KS size)) (by kernel_rfl) (by kernel_rfl) (fun _ _ => (run_sub (k := .i64) (a := 63) (b := (size + 9 - 1) % 64) (by kernel_rfl) (by kernel_rfl) (by omega) (by decide)))) ?_
    refine AllSure.cons (OpSure.take (v := iN .i64 (gapP KS size)) (by kernel_rfl) (by kernel_rfl) (fun _ _ => (by kernel_rfl))) ?_
    exact AllSure.nil
  intro w4 h5
  refine then_at (F := ⟨(.agg kcS :: iN .i64 size :: pt q1 :: un :: .string { data := #[] } :: iN .i64 9 :: iN .i64 (gapP KS size) :: un :: un :: un :: .pointer (some ⟨q1, 3, none⟩) :: iN .i64 8 :: iN .i64 9 :: .pointer (some ⟨q1, 1, none⟩) :: iN .i64 64 :: iN .i64 63 :: iN .i64 size :: iN .i64 9 :: iN .i64 (size + 9) :: iN .i64 ((size + 9) - 1) :: .pointer (some ⟨q1, 1, none⟩) :: iN .i64 64 :: iN .i64 (((size + 9) - 1) % 64) :: iN .i64 (gapP KS size) :: List.replicate 31 un).toArray, []⟩) (by kernel_rfl) ?_
  refine wp_seq ?_
  -- region 3
  refine wl_region ?_
  refine wl_val (iN .i64 (gapP KS size)) (by kernel_rfl) (by kernel_rfl) ?_
  refine wl_val (iN .i64 (1 + (gapP KS size))) (by kernel_rfl) (run_add (k := .i64) (a := 1) (b := gapP KS size) (by kernel_rfl) (by kernel_rfl) (by simp only [top]; omega)) ?_
  refine wl_val (iN .i64 9) (by kernel_rfl) (by kernel_rfl) ?_
  refine wl_val (iN .i64 (gapP KS size)) (by kernel_rfl) (by kernel_rfl) ?_
  refine wl_val (iN .i64 (9 + (gapP KS size))) (by kernel_rfl) (run_add (k := .i64) (a := 9) (b := gapP KS size) (by kernel_rfl) (by kernel_rfl) (by simp only [top]; omega)) ?_
  refine wl_mks (n := 1 + (gapP KS size)) (m := 9 + (gapP KS size)) h5 5 (by kernel_rfl) (run_mk (k := .i64) (m := 1 + (gapP KS size)) (c := 9 + (gapP KS size)) (by kernel_rfl) (by kernel_rfl) (by omega) (by omega)) ?_
  intro q6 w7 h8
  refine wl_val (.slice (some ⟨q6, 0, none⟩) (1 + (gapP KS size)) (9 + (gapP KS size))) (by kernel_rfl) (by kernel_rfl) ?_
  refine wl_nil ?_
  refine then_at (F := ⟨(.agg kcS :: iN .i64 size :: pt q1 :: un :: .string { data := #[] } :: iN .i64 9 :: iN .i64 (gapP KS size) :: .slice (some ⟨q6, 0, none⟩) (1 + (gapP KS size)) (9 + (gapP KS size)) :: un :: un :: .pointer (some ⟨q1, 3, none⟩) :: iN .i64 8 :: iN .i64 9 :: .pointer (some ⟨q1, 1, none⟩) :: iN .i64 64 :: iN .i64 63 :: iN .i64 size :: iN .i64 9 :: iN .i64 (size + 9) :: iN .i64 ((size + 9) - 1) :: .pointer (some ⟨q1, 1, none⟩) :: iN .i64 64 :: iN .i64 (((size + 9) - 1) % 64) :: iN .i64 (gapP KS size) :: iN .i64 (gapP KS size) :: iN .i64 (1 + (gapP KS size)) :: iN .i64 9 :: iN .i64 (gapP KS size) :: iN .i64 (9 + (gapP KS size)) :: .slice (some ⟨q6, 0, none⟩) (1 + (gapP KS size)) (9 + (gapP KS size)) :: List.replicate 25 un).toArray, []⟩) (by kernel_rfl) ?_
  refine wp_seq ?_
  -- region 4
  refine wl_region ?_
  refine wl_val (.slice (some ⟨q6, 0, none⟩) (1 + (gapP KS size)) (9 + (gapP KS size))) (by kernel_rfl) (by kernel_rfl) ?_
  refine wl_val (.pointer (some ⟨q6, 0, none⟩)) (by kernel_rfl) (run_addr_slice (q := q6) (n := 1 + (gapP KS size)) (m := 9 + (gapP KS size)) (a := 0) Tryd.underlying31 (fun w => Tryd.sizeOf5 w) (by kernel_rfl) (by kernel_rfl) (by omega)) ?_
  refine wl_put (k := .u8) (z := ((128 : Nat) : Int)) h8 0 rfl 0 (by rw [bc_size, (List.length_replicate)]; omega) (by kernel_rfl) (fun w => Tryd.sizeOf5 w) (by kernel_rfl) (by kernel_rfl) ?_
  intro w9 h10
  have h11 : HA w [(q6, 5, bc (fpS size 0 ++ List.replicate (9 + gapP KS size - (1 + gapP KS size + 0)) 0)), (q1, 52, kcS)] w9 := by
    have e : (bc (List.replicate (9 + (gapP KS size)) 0)).setIfInBounds 0 (.int .u8 ((128 : Nat) : Int)) = bc (fpS size 0 ++ List.replicate (9 + gapP KS size - (1 + gapP KS size + 0)) 0) := (fp_startS size)
    rw [← e]; exact h10
  clear h10
  refine wl_nil ?_
  refine then_at (F := ⟨(.agg kcS :: iN .i64 size :: pt q1 :: un :: .string { data := #[] } :: iN .i64 9 :: iN .i64 (gapP KS size) :: .slice (some ⟨q6, 0, none⟩) (1 + (gapP KS size)) (9 + (gapP KS size)) :: un :: un :: .pointer (some ⟨q1, 3, none⟩) :: iN .i64 8 :: iN .i64 9 :: .pointer (some ⟨q1, 1, none⟩) :: iN .i64 64 :: iN .i64 63 :: iN .i64 size :: iN .i64 9 :: iN .i64 (size + 9) :: iN .i64 ((size + 9) - 1) :: .pointer (some ⟨q1, 1, none⟩) :: iN .i64 64 :: iN .i64 (((size + 9) - 1) % 64) :: iN .i64 (gapP KS size) :: iN .i64 (gapP KS size) :: iN .i64 (1 + (gapP KS size)) :: iN .i64 9 :: iN .i64 (gapP KS size) :: iN .i64 (9 + (gapP KS size)) :: .slice (some ⟨q6, 0, none⟩) (1 + (gapP KS size)) (9 + (gapP KS size)) :: .slice (some ⟨q6, 0, none⟩) (1 + (gapP KS size)) (9 + (gapP KS size)) :: pt q6 :: List.replicate 23 un).toArray, []⟩) (by kernel_rfl) ?_
  refine wp_seq ?_
  -- region 5
  refine wl_region ?_
  refine wl_val (iN .i64 size) (by kernel_rfl) (by kernel_rfl) ?_
  refine wl_val (iN .u64 size) (by kernel_rfl) (run_conv .u64 Tryd.underlying3 Tryd.underlying63 (by kernel_rfl) (by simp only [top]; omega)) ?_
  refine wl_val (iN .u64 (8 * size)) (by kernel_rfl) (run_mul (k := .u64) (a := 8) (b := size) (by kernel_rfl) (by kernel_rfl) (by simp only [top]; omega)) ?_
  refine wl_val (iN .u64 (8 * size)) (by kernel_rfl) (by kernel_rfl) ?_
  refine wl_nil ?_
  refine then_at (F := ⟨(.agg kcS :: iN .i64 size :: pt q1 :: un :: .string { data := #[] } :: iN .i64 9 :: iN .i64 (gapP KS size) :: .slice (some ⟨q6, 0, none⟩) (1 + (gapP KS size)) (9 + (gapP KS size)) :: iN .u64 (8 * size) :: un :: .pointer (some ⟨q1, 3, none⟩) :: iN .i64 8 :: iN .i64 9 :: .pointer (some ⟨q1, 1, none⟩) :: iN .i64 64 :: iN .i64 63 :: iN .i64 size :: iN .i64 9 :: iN .i64 (size + 9) :: iN .i64 ((size + 9) - 1) :: .pointer (some ⟨q1, 1, none⟩) :: iN .i64 64 :: iN .i64 (((size + 9) - 1) % 64) :: iN .i64 (gapP KS size) :: iN .i64 (gapP KS size) :: iN .i64 (1 + (gapP KS size)) :: iN .i64 9 :: iN .i64 (gapP KS size) :: iN .i64 (9 + (gapP KS size)) :: .slice (some ⟨q6, 0, none⟩) (1 + (gapP KS size)) (9 + (gapP KS size)) :: .slice (some ⟨q6, 0, none⟩) (1 + (gapP KS size)) (9 + (gapP KS size)) :: pt q6 :: iN .i64 size :: iN .u64 size :: iN .u64 (8 * size) :: List.replicate 20 un).toArray, []⟩) (by kernel_rfl) ?_
  refine wp_seq ?_
  refine wp_seq ?_
  -- region 6
  refine wl_region ?_
  refine wl_val (.pointer (some ⟨q1, 3, none⟩)) (by kernel_rfl) (by kernel_rfl) ?_
  refine wl_val (iN .i64 8) (by kernel_rfl) (run_load1 (fun w => Tryd.isAgg3 w) (by kernel_rfl) (((h11.get 1 rfl).cell 3).trans (by kernel_rfl))) ?_
  refine wl_val (iN .i64 0) (by kernel_rfl) (by kernel_rfl) ?_
  refine wl_nil ?_
  refine then_at (F := ⟨(.agg kcS :: iN .i64 size :: pt q1 :: un :: .string { data := #[] } :: iN .i64 9 :: iN .i64 (gapP KS size) :: .slice (some ⟨q6, 0, none⟩) (1 + (gapP KS size)) (9 + (gapP KS size)) :: iN .u64 (8 * size) :: un :: .pointer (some ⟨q1, 3, none⟩) :: iN .i64 8 :: iN .i64 9 :: .pointer (some ⟨q1, 1, none⟩) :: iN .i64 64 :: iN .i64 63 :: iN .i64 size :: iN .i64 9 :: iN .i64 (size + 9) :: iN .i64 ((size + 9) - 1) :: .pointer (some ⟨q1, 1, none⟩) :: iN .i64 64 :: iN .i64 (((size + 9) - 1) % 64) :: iN .i64 (gapP KS size) :: iN .i64 (gapP KS size) :: iN .i64 (1 + (gapP KS size)) :: iN .i64 9 :: iN .i64 (gapP KS size) :: iN .i64 (9 + (gapP KS size)) :: .slice (some ⟨q6, 0, none⟩) (1 + (gapP KS size)) (9 + (gapP KS size)) :: .slice (some ⟨q6, 0, none⟩) (1 + (gapP KS size)) (9 + (gapP KS size)) :: pt q6 :: iN .i64 size :: iN .u64 size :: iN .u64 (8 * size) :: .pointer (some ⟨q1, 3, none⟩) :: iN .i64 8 :: iN .i64 0 :: List.replicate 17 un).toArray, []⟩) (by kernel_rfl) ?_
  refine wp_block ?_
  refine wp_count (fun k A w' => ∃ u12 : Nat → Value, A = ⟨(.agg kcS :: iN .i64 size :: pt q1 :: un :: .string { data := #[] } :: iN .i64 9 :: iN .i64 (gapP KS size) :: .slice (some ⟨q6, 0, none⟩) (1 + gapP KS size + k) (9 + gapP KS size) :: iN .u64 (8 * size) :: u12 9 :: .pointer (some ⟨q1, 3, none⟩) :: iN .i64 8 :: iN .i64 9 :: .pointer (some ⟨q1, 1, none⟩) :: iN .i64 64 :: iN .i64 63 :: iN .i64 size :: iN .i64 9 :: iN .i64 (size + 9) :: iN .i64 ((size + 9) - 1) :: .pointer (some ⟨q1, 1, none⟩) :: iN .i64 64 :: iN .i64 (((size + 9) - 1) % 64) :: iN .i64 (gapP KS size) :: iN .i64 (gapP KS size) :: iN .i64 (1 + (gapP KS size)) :: iN .i64 9 :: iN .i64 (gapP KS size) :: iN .i64 (9 + (gapP KS size)) :: .slice (some ⟨q6, 0, none⟩) (1 + (gapP KS size)) (9 + (gapP KS size)) :: .slice (some ⟨q6, 0, none⟩) (1 + (gapP KS size)) (9 + (gapP KS size)) :: pt q6 :: iN .i64 size :: iN .u64 size :: iN .u64 (8 * size) :: .pointer (some ⟨q1, 3, none⟩) :: iN .i64 8 :: iN .i64 k :: u12 38 :: u12 39 :: u12 40 :: u12 41 :: u12 42 :: u12 43 :: u12 44 :: u12 45 :: u12 46 :: u12 47 :: u12 48 :: u12 49 :: u12 50 :: u12 51 :: u12 52 :: List.replicate 2 un).toArray, []⟩ ∧ HA w [(q6, 5, bc (fpS size k ++ List.replicate (9 + gapP KS size - (1 + gapP KS size + k)) 0)), (q1, 52, kcS)] w') 8 ?_ ?_ ?_
  · exact ⟨fun ii => (([(9, undef), (38, undef), (39, undef), (40, undef), (41, undef), (42, undef), (43, undef), (44, undef), (45, undef), (46, undef), (47, undef), (48, undef), (49, undef), (50, undef), (51, undef), (52, undef)] : List (Nat × Value)).find? (·.1 == ii)).elim undef (·.2), by kernel_rfl, h11⟩
  · rintro k hk _ w13 ⟨u12, rfl, h14⟩
    refine wp_seq ?_
    -- region 7
    refine wl_region ?_
    refine wl_val (.bool true) (by kernel_rfl) (run_lss (k := .i64) (a := k) (b := 8) (by kernel_rfl) (by kernel_rfl) true (decide_eq_true hk)) ?_
    refine wl_nil ?_
    refine then_at (F := ⟨(.agg kcS :: iN .i64 size :: pt q1 :: un :: .string { data := #[] } :: iN .i64 9 :: iN .i64 (gapP KS size) :: .slice (some ⟨q6, 0, none⟩) (1 + gapP KS size + k) (9 + gapP KS size) :: iN .u64 (8 * size) :: u12 9 :: .pointer (some ⟨q1, 3, none⟩) :: iN .i64 8 :: iN .i64 9 :: .pointer (some ⟨q1, 1, none⟩) :: iN .i64 64 :: iN .i64 63 :: iN .i64 size :: iN .i64 9 :: iN .i64 (size + 9) :: iN .i64 ((size + 9) - 1) :: .pointer (some ⟨q1, 1, none⟩) :: iN .i64 64 :: iN .i64 (((size + 9) - 1) % 64) :: iN .i64 (gapP KS size) :: iN .i64 (gapP KS size) :: iN .i64 (1 + (gapP KS size)) :: iN .i64 9 :: iN .i64 (gapP KS size) :: iN .i64 (9 + (gapP KS size)) :: .slice (some ⟨q6, 0, none⟩) (1 + (gapP KS size)) (9 + (gapP KS size)) :: .slice (some ⟨q6, 0, none⟩) (1 + (gapP KS size)) (9 + (gapP KS size)) :: pt q6 :: iN .i64 size :: iN .u64 size :: iN .u64 (8 * size) :: .pointer (some ⟨q1, 3, none⟩) :: iN .i64 8 :: iN .i64 k :: .bool true :: u12 39 :: u12 40 :: u12 41 :: u12 42 :: u12 43 :: u12 44 :: u12 45 :: u12 46 :: u12 47 :: u12 48 :: u12 49 :: u12 50 :: u12 51 :: u12 52 :: List.replicate 2 un).toArray, []⟩) (by kernel_rfl) ?_
    refine wp_seq ?_
    refine wp_cond_true (by kernel_rfl) ?_
    refine wp_skip ?_
    refine then_at (F := ⟨(.agg kcS :: iN .i64 size :: pt q1 :: un :: .string { data := #[] } :: iN .i64 9 :: iN .i64 (gapP KS size) :: .slice (some ⟨q6, 0, none⟩) (1 + gapP KS size + k) (9 + gapP KS size) :: iN .u64 (8 * size) :: u12 9 :: .pointer (some ⟨q1, 3, none⟩) :: iN .i64 8 :: iN .i64 9 :: .pointer (some ⟨q1, 1, none⟩) :: iN .i64 64 :: iN .i64 63 :: iN .i64 size :: iN .i64 9 :: iN .i64 (size + 9) :: iN .i64 ((size + 9) - 1) :: .pointer (some ⟨q1, 1, none⟩) :: iN .i64 64 :: iN .i64 (((size + 9) - 1) % 64) :: iN .i64 (gapP KS size) :: iN .i64 (gapP KS size) :: iN .i64 (1 + (gapP KS size)) :: iN .i64 9 :: iN .i64 (gapP KS size) :: iN .i64 (9 + (gapP KS size)) :: .slice (some ⟨q6, 0, none⟩) (1 + (gapP KS size)) (9 + (gapP KS size)) :: .slice (some ⟨q6, 0, none⟩) (1 + (gapP KS size)) (9 + (gapP KS size)) :: pt q6 :: iN .i64 size :: iN .u64 size :: iN .u64 (8 * size) :: .pointer (some ⟨q1, 3, none⟩) :: iN .i64 8 :: iN .i64 k :: .bool true :: u12 39 :: u12 40 :: u12 41 :: u12 42 :: u12 43 :: u12 44 :: u12 45 :: u12 46 :: u12 47 :: u12 48 :: u12 49 :: u12 50 :: u12 51 :: u12 52 :: List.replicate 2 un).toArray, []⟩) (by kernel_rfl) ?_
    refine wp_seq ?_
    refine wp_block ?_
    refine wp_seq ?_
    -- region 8
    refine wl_region ?_
    refine wl_val (iN .i64 k) (by kernel_rfl) (by kernel_rfl) ?_
    refine wl_val (iN .i64 k) (by kernel_rfl) (by kernel_rfl) ?_
    refine wl_nil ?_
    refine then_at (F := ⟨(.agg kcS :: iN .i64 size :: pt q1 :: un :: .string { data := #[] } :: iN .i64 9 :: iN .i64 (gapP KS size) :: .slice (some ⟨q6, 0, none⟩) (1 + gapP KS size + k) (9 + gapP KS size) :: iN .u64 (8 * size) :: iN .i64 k :: .pointer (some ⟨q1, 3, none⟩) :: iN .i64 8 :: iN .i64 9 :: .pointer (some ⟨q1, 1, none⟩) :: iN .i64 64 :: iN .i64 63 :: iN .i64 size :: iN .i64 9 :: iN .i64 (size + 9) :: iN .i64 ((size + 9) - 1) :: .pointer (some ⟨q1, 1, none⟩) :: iN .i64 64 :: iN .i64 (((size + 9) - 1) % 64) :: iN .i64 (gapP KS size) :: iN .i64 (gapP KS size) :: iN .i64 (1 + (gapP KS size)) :: iN .i64 9 :: iN .i64 (gapP KS size) :: iN .i64 (9 + (gapP KS size)) :: .slice (some ⟨q6, 0, none⟩) (1 + (gapP KS size)) (9 + (gapP KS size)) :: .slice (some ⟨q6, 0, none⟩) (1 + (gapP KS size)) (9 + (gapP KS size)) :: pt q6 :: iN .i64 size :: iN .u64 size :: iN .u64 (8 * size) :: .pointer (some ⟨q1, 3, none⟩) :: iN .i64 8 :: iN .i64 k :: .bool true :: iN .i64 k :: u12 40 :: u12 41 :: u12 42 :: u12 43 :: u12 44 :: u12 45 :: u12 46 :: u12 47 :: u12 48 :: u12 49 :: u12 50 :: u12 51 :: u12 52 :: List.replicate 2 un).toArray, []⟩) (by kernel_rfl) ?_
    -- region 9
    refine wl_region ?_
    refine wl_val (.slice (some ⟨q6, 0, none⟩) (1 + gapP KS size + k) (9 + gapP KS size)) (by kernel_rfl) (by kernel_rfl) ?_
    refine wl_val (iN .u64 (8 * size)) (by kernel_rfl) (by kernel_rfl) ?_
    refine wl_val (.pointer (some ⟨q1, 3, none⟩)) (by kernel_rfl) (by kernel_rfl) ?_
    refine wl_val (iN .i64 8) (by kernel_rfl) (run_load1 (fun w => Tryd.isAgg3 w) (by kernel_rfl) (((h14.get 1 rfl).cell 3).trans (by kernel_rfl))) ?_
    refine wl_val (iN .i64 7) (by kernel_rfl) (run_sub (k := .i64) (a := 8) (b := 1) (by kernel_rfl) (by kernel_rfl) (by decide) (by decide)) ?_
    refine wl_val (iN .i64 k) (by kernel_rfl) (by kernel_rfl) ?_
    refine wl_val (iN .i64 (7 - k)) (by kernel_rfl) (run_sub (k := .i64) (a := 7) (b := k) (by kernel_rfl) (by kernel_rfl) (by omega) (by simp only [top]; omega)) ?_
    refine wl_val (iN .i64 (8 * (7 - k))) (by kernel_rfl) (run_mul (k := .i64) (a := 8) (b := 7 - k) (by kernel_rfl) (by kernel_rfl) (by simp only [top]; omega)) ?_
    refine wl_val (iN .u64 ((8 * size) / 2 ^ (8 * (7 - k)))) (by kernel_rfl) (run_shrn (k2 := .i64) (a := 8 * size) (b := 8 * (7 - k)) (by omega) (by kernel_rfl) (by kernel_rfl)) ?_
    refine wl_val (by8 (UInt8.ofNat ((8 * size) / 2 ^ (8 * (7 - k))))) (by kernel_rfl) (run_lown (a := (8 * size) / 2 ^ (8 * (7 - k))) (by kernel_rfl) Tryd.underlying63 Tryd.underlying5) ?_
    refine wl_mks (n := 1) (m := 1) h14 5 (by kernel_rfl) (run_build1 (u := UInt8.ofNat ((8 * size) / 2 ^ (8 * (7 - k)))) (by kernel_rfl)) ?_
    intro q15 w16 h17
    refine wl_app (q := q6) (r := q15) (m := 1 + gapP KS size + k) (c := 9 + gapP KS size) (j := 1) (c2 := 1) (l := fpS size k ++ List.replicate (9 + gapP KS size - (1 + gapP KS size + k)) 0) (n := [UInt8.ofNat ((8 * size) / 2 ^ (8 * (7 - k)))]) (l' := fpS size (k + 1) ++ List.replicate (9 + gapP KS size - (1 + gapP KS size + (k + 1))) 0) h17 1 0 rfl rfl (by kernel_rfl) (by kernel_rfl) (by kernel_rfl) rfl (by omega) (fpp_lenS size k (by omega)) (fp_stepS size k hk) ?_
    intro w18 (h19 : HA w [(q15, 5, bc ([UInt8.ofNat ((8 * size) / 2 ^ (8 * (7 - k)))])), (q6, 5, bc (fpS size (k + 1) ++ List.replicate (9 + gapP KS size - (1 + gapP KS size + (k + 1))) 0)), (q1, 52, kcS)] w18)
    have h20 : HA w [(q6, 5, bc (fpS size (k + 1) ++ List.replicate (9 + gapP KS size - (1 + gapP KS size + (k + 1))) 0)), (q1, 52, kcS)] w18 := h19.tl
    clear h19
    refine wl_val (.slice (some ⟨q6, 0, none⟩) (1 + gapP KS size + k + 1) (9 + gapP KS size)) (by kernel_rfl) (by kernel_rfl) ?_
    refine wl_nil ?_
    refine block_normal ?_
    refine then_at (F := ⟨(.agg kcS :: iN .i64 size :: pt q1 :: un :: .string { data := #[] } :: iN .i64 9 :: iN .i64 (gapP KS size) :: .slice (some ⟨q6, 0, none⟩) (1 + gapP KS size + k + 1) (9 + gapP KS size) :: iN .u64 (8 * size) :: iN .i64 k :: .pointer (some ⟨q1, 3, none⟩) :: iN .i64 8 :: iN .i64 9 :: .pointer (some ⟨q1, 1, none⟩) :: iN .i64 64 :: iN .i64 63 :: iN .i64 size :: iN .i64 9 :: iN .i64 (size + 9) :: iN .i64 ((size + 9) - 1) :: .pointer (some ⟨q1, 1, none⟩) :: iN .i64 64 :: iN .i64 (((size + 9) - 1) % 64) :: iN .i64 (gapP KS size) :: iN .i64 (gapP KS size) :: iN .i64 (1 + (gapP KS size)) :: iN .i64 9 :: iN .i64 (gapP KS size) :: iN .i64 (9 + (gapP KS size)) :: .slice (some ⟨q6, 0, none⟩) (1 + (gapP KS size)) (9 + (gapP KS size)) :: .slice (some ⟨q6, 0, none⟩) (1 + (gapP KS size)) (9 + (gapP KS size)) :: pt q6 :: iN .i64 size :: iN .u64 size :: iN .u64 (8 * size) :: .pointer (some ⟨q1, 3, none⟩) :: iN .i64 8 :: iN .i64 k :: .bool true :: iN .i64 k :: .slice (some ⟨q6, 0, none⟩) (1 + gapP KS size + k) (9 + gapP KS size) :: iN .u64 (8 * size) :: .pointer (some ⟨q1, 3, none⟩) :: iN .i64 8 :: iN .i64 7 :: iN .i64 k :: iN .i64 (7 - k) :: iN .i64 (8 * (7 - k)) :: iN .u64 ((8 * size) / 2 ^ (8 * (7 - k))) :: by8 (UInt8.ofNat ((8 * size) / 2 ^ (8 * (7 - k)))) :: .slice (some ⟨q15, 0, none⟩) 1 1 :: .slice (some ⟨q6, 0, none⟩) (1 + gapP KS size + k + 1) (9 + gapP KS size) :: u12 52 :: List.replicate 2 un).toArray, []⟩) (by kernel_rfl) ?_
    -- region 10
    refine wl_region ?_
    refine wl_val (iN .i64 (k + 1)) (by kernel_rfl) (run_add (k := .i64) (a := k) (b := 1) (by kernel_rfl) (by kernel_rfl) (by simp only [top]; omega)) ?_
    refine wl_val (iN .i64 (k + 1)) (by kernel_rfl) (by kernel_rfl) ?_
    refine wl_nil ?_
    exact then_I ⟨fun ii => (([(9, iN .i64 k), (38, .bool true), (39, iN .i64 k), (40, .slice (some ⟨q6, 0, none⟩) (1 + gapP KS size + k) (9 + gapP KS size)), (41, iN .u64 (8 * size)), (42, .pointer (some ⟨q1, 3, none⟩)), (43, iN .i64 8), (44, iN .i64 7), (45, iN .i64 k), (46, iN .i64 (7 - k)), (47, iN .i64 (8 * (7 - k))), (48, iN .u64 ((8 * size) / 2 ^ (8 * (7 - k)))), (49, by8 (UInt8.ofNat ((8 * size) / 2 ^ (8 * (7 - k))))), (50, .slice (some ⟨q15, 0, none⟩) 1 1), (51, .slice (some ⟨q6, 0, none⟩) (1 + gapP KS size + k + 1) (9 + gapP KS size)), (52, iN .i64 (k + 1))] : List (Nat × Value)).find? (·.1 == ii)).elim undef (·.2), by kernel_rfl, h20⟩
  · rintro _ w21 ⟨u12, rfl, h22⟩
    refine wp_seq ?_
    -- region 7
    refine wl_region ?_
    refine wl_val (.bool false) (by kernel_rfl) (run_lss (k := .i64) (a := 8) (b := 8) (by kernel_rfl) (by kernel_rfl) false (by decide)) ?_
    refine wl_nil ?_
    refine then_at (F := ⟨(.agg kcS :: iN .i64 size :: pt q1 :: un :: .string { data := #[] } :: iN .i64 9 :: iN .i64 (gapP KS size) :: .slice (some ⟨q6, 0, none⟩) (1 + gapP KS size + 8) (9 + gapP KS size) :: iN .u64 (8 * size) :: u12 9 :: .pointer (some ⟨q1, 3, none⟩) :: iN .i64 8 :: iN .i64 9 :: .pointer (some ⟨q1, 1, none⟩) :: iN .i64 64 :: iN .i64 63 :: iN .i64 size :: iN .i64 9 :: iN .i64 (size + 9) :: iN .i64 ((size + 9) - 1) :: .pointer (some ⟨q1, 1, none⟩) :: iN .i64 64 :: iN .i64 (((size + 9) - 1) % 64) :: iN .i64 (gapP KS size) :: iN .i64 (gapP KS size) :: iN .i64 (1 + (gapP KS size)) :: iN .i64 9 :: iN .i64 (gapP KS size) :: iN .i64 (9 + (gapP KS size)) :: .slice (some ⟨q6, 0, none⟩) (1 + (gapP KS size)) (9 + (gapP KS size)) :: .slice (some ⟨q6, 0, none⟩) (1 + (gapP KS size)) (9 + (gapP KS size)) :: pt q6 :: iN .i64 size :: iN .u64 size :: iN .u64 (8 * size) :: .pointer (some ⟨q1, 3, none⟩) :: iN .i64 8 :: iN .i64 8 :: .bool false :: u12 39 :: u12 40 :: u12 41 :: u12 42 :: u12 43 :: u12 44 :: u12 45 :: u12 46 :: u12 47 :: u12 48 :: u12 49 :: u12 50 :: u12 51 :: u12 52 :: List.replicate 2 un).toArray, []⟩) (by kernel_rfl) ?_
    refine wp_seq ?_
    refine wp_cond_false (by kernel_rfl) ?_
    refine wp_exit ?_
    repeat first | refine then_exit ?_ | refine block_exit ?_ | refine block_exit_ne (by decide) ?_
    refine then_at (F := ⟨(.agg kcS :: iN .i64 size :: pt q1 :: un :: .string { data := #[] } :: iN .i64 9 :: iN .i64 (gapP KS size) :: .slice (some ⟨q6, 0, none⟩) (1 + gapP KS size + 8) (9 + gapP KS size) :: iN .u64 (8 * size) :: u12 9 :: .pointer (some ⟨q1, 3, none⟩) :: iN .i64 8 :: iN .i64 9 :: .pointer (some ⟨q1, 1, none⟩) :: iN .i64 64 :: iN .i64 63 :: iN .i64 size :: iN .i64 9 :: iN .i64 (size + 9) :: iN .i64 ((size + 9) - 1) :: .pointer (some ⟨q1, 1, none⟩) :: iN .i64 64 :: iN .i64 (((size + 9) - 1) % 64) :: iN .i64 (gapP KS size) :: iN .i64 (gapP KS size) :: iN .i64 (1 + (gapP KS size)) :: iN .i64 9 :: iN .i64 (gapP KS size) :: iN .i64 (9 + (gapP KS size)) :: .slice (some ⟨q6, 0, none⟩) (1 + (gapP KS size)) (9 + (gapP KS size)) :: .slice (some ⟨q6, 0, none⟩) (1 + (gapP KS size)) (9 + (gapP KS size)) :: pt q6 :: iN .i64 size :: iN .u64 size :: iN .u64 (8 * size) :: .pointer (some ⟨q1, 3, none⟩) :: iN .i64 8 :: iN .i64 8 :: .bool false :: u12 39 :: u12 40 :: u12 41 :: u12 42 :: u12 43 :: u12 44 :: u12 45 :: u12 46 :: u12 47 :: u12 48 :: u12 49 :: u12 50 :: u12 51 :: u12 52 :: List.replicate 2 un).toArray, []⟩) (by kernel_rfl) ?_
    refine wp_seq ?_
    -- region 11
    refine wl_region ?_
    refine wl_val (.slice (some ⟨q6, 0, none⟩) (1 + gapP KS size + 8) (9 + gapP KS size)) (by kernel_rfl) (by kernel_rfl) ?_
    refine wl_val (.string (⟨((fpS size 8 ++ List.replicate (9 + gapP KS size - (1 + gapP KS size + 8)) 0).take (1 + gapP KS size + 8)).toArray⟩)) (by kernel_rfl) (run_text (q := q6) (m := 1 + gapP KS size + 8) (c := 9 + gapP KS size) (l := fpS size 8 ++ List.replicate (9 + gapP KS size - (1 + gapP KS size + 8)) 0) (by kernel_rfl) (h22.get 0 rfl) (by rw [(fpp_lenS size 8 (by omega))]; omega)) ?_
    refine wl_val (.string (⟨((fpS size 8 ++ List.replicate (9 + gapP KS size - (1 + gapP KS size + 8)) 0).take (1 + gapP KS size + 8)).toArray⟩)) (by kernel_rfl) (by kernel_rfl) ?_
    refine wl_nil ?_
    refine then_at (F := ⟨(.agg kcS :: iN .i64 size :: pt q1 :: un :: .string (⟨((fpS size 8 ++ List.replicate (9 + gapP KS size - (1 + gapP KS size + 8)) 0).take (1 + gapP KS size + 8)).toArray⟩) :: iN .i64 9 :: iN .i64 (gapP KS size) :: .slice (some ⟨q6, 0, none⟩) (1 + gapP KS size + 8) (9 + gapP KS size) :: iN .u64 (8 * size) :: u12 9 :: .pointer (some ⟨q1, 3, none⟩) :: iN .i64 8 :: iN .i64 9 :: .pointer (some ⟨q1, 1, none⟩) :: iN .i64 64 :: iN .i64 63 :: iN .i64 size :: iN .i64 9 :: iN .i64 (size + 9) :: iN .i64 ((size + 9) - 1) :: .pointer (some ⟨q1, 1, none⟩) :: iN .i64 64 :: iN .i64 (((size + 9) - 1) % 64) :: iN .i64 (gapP KS size) :: iN .i64 (gapP KS size) :: iN .i64 (1 + (gapP KS size)) :: iN .i64 9 :: iN .i64 (gapP KS size) :: iN .i64 (9 + (gapP KS size)) :: .slice (some ⟨q6, 0, none⟩) (1 + (gapP KS size)) (9 + (gapP KS size)) :: .slice (some ⟨q6, 0, none⟩) (1 + (gapP KS size)) (9 + (gapP KS size)) :: pt q6 :: iN .i64 size :: iN .u64 size :: iN .u64 (8 * size) :: .pointer (some ⟨q1, 3, none⟩) :: iN .i64 8 :: iN .i64 8 :: .bool false :: u12 39 :: u12 40 :: u12 41 :: u12 42 :: u12 43 :: u12 44 :: u12 45 :: u12 46 :: u12 47 :: u12 48 :: u12 49 :: u12 50 :: u12 51 :: u12 52 :: .slice (some ⟨q6, 0, none⟩) (1 + gapP KS size + 8) (9 + gapP KS size) :: .string (⟨((fpS size 8 ++ List.replicate (9 + gapP KS size - (1 + gapP KS size + 8)) 0).take (1 + gapP KS size + 8)).toArray⟩) :: List.replicate 0 un).toArray, []⟩) (by kernel_rfl) ?_
    refine wp_ret ?_
    repeat first | refine then_ret ?_ | refine block_ret ?_
    exact bodyPost_ret (v := .string ⟨((fpS size 8 ++ List.replicate (9 + gapP KS size - (1 + gapP KS size + 8)) 0).take (1 + gapP KS size + 8)).toArray⟩) (by kernel_rfl) rfl ⟨by rw [fp_endS size], h22.old⟩

def donL (st : List (BitVec 64)) (i j : Nat) : List UInt8 := outP st i ++ outW (st.getD i 0) j
theorem don_zeroL (st : List (BitVec 64)) (i : Nat) : donL st i 0 = outP st i := List.append_nil _
theorem don_lenL (st : List (BitVec 64)) (i j : Nat) : (donL st i j).length = 8 * i + j := by
  unfold donL
  rw [List.length_append, outP_len, outW_len, show 64 / 8 = 8 from rfl]
  omega
theorem out_lenL (st : List (BitVec 64)) (i : Nat) (hi : i ≤ 8) : (outP st i ++ List.replicate (64 - 8 * i) 0).length = 64 := by rw [padb_len, outP_len, show 64 / 8 = 8 from rfl]; omega
theorem donp_lenL (st : List (BitVec 64)) (i j : Nat) (hi : i < 8) (hj : j ≤ 8) : (donL st i j ++ List.replicate (64 - (8 * i + j)) 0).length = 64 := by rw [padb_len, don_lenL]; omega
theorem don_stepL (st : List (BitVec 64)) (i j : Nat) (hi : i < 8) (hj : j < 8) : laidOn (donL st i j ++ List.replicate (64 - (8 * i + j)) 0) (8 * i + j) [UInt8.ofNat ((st.getD i 0) >>> (64 - 8 * (j + 1))).toNat] = donL st i (j + 1) ++ List.replicate (64 - (8 * i + (j + 1))) 0 := by
  rw [app_pad _ _ _ _ (don_lenL st i j) (by omega)]
  unfold donL
  rw [outW, Nat.add_assoc]
  simp only [List.append_assoc]
theorem lay_endL (st : List (BitVec 64)) : (outP st 8 ++ List.replicate (64 - 8 * 8) 0).take (8 * 8) = outP st 8 := by
  rw [← show (outP st 8).length = 8 * 8 by rw [outP_len], List.take_left]

theorem gapL (size : Nat) : gapP KL size = 127 - (size + 17 - 1) % 128 := rfl
theorem gap_leL (size : Nat) : gapP KL size ≤ 127 := Nat.sub_le _ _
def fpL (size i : Nat) : List UInt8 := (128 :: List.replicate (gapP KL size) 0) ++ beP 16 (8 * size) i
theorem fp_lenL (size i : Nat) : (fpL size i).length = 1 + gapP KL size + i := by unfold fpL; rw [List.length_append, List.length_cons, List.length_replicate, beP_len]; omega
theorem fpp_lenL (size i : Nat) (hi : i ≤ 16) : (fpL size i ++ List.replicate (17 + gapP KL size - (1 + gapP KL size + i)) 0).length = 17 + gapP KL size := by rw [padb_len, fp_lenL]; omega
theorem fp_startL (size : Nat) : (bc (List.replicate (17 + gapP KL size) 0)).setIfInBounds 0 (.int .u8 ((128 : Nat) : Int)) = bc (fpL size 0 ++ List.replicate (17 + gapP KL size - (1 + gapP KL size + 0)) 0) := by
  have e : List.replicate (17 + gapP KL size) (0 : UInt8) = 0 :: (List.replicate (gapP KL size) 0 ++ List.replicate 16 0) := by
    rw [List.replicate_append_replicate, ← List.replicate_succ]; congr 1; omega
  rw [e, show 17 + gapP KL size - (1 + gapP KL size + 0) = 16 by omega]
  unfold bc fpL beP
  simp only [List.map_cons, List.setIfInBounds_toArray, List.set_cons_zero, List.append_nil, List.cons_append]
  rfl
theorem fp_stepL (size i : Nat) (hi : i < 16) : laidOn (fpL size i ++ List.replicate (17 + gapP KL size - (1 + gapP KL size + i)) 0) (1 + gapP KL size + i) [UInt8.ofNat (8 * size / 2 ^ (8 * (15 - i)))] = fpL size (i + 1) ++ List.replicate (17 + gapP KL size - (1 + gapP KL size + (i + 1))) 0 := by
  rw [app_pad _ _ _ _ (fp_lenL size i) (by omega)]
  unfold fpL
  rw [beP, Nat.add_assoc]
  simp only [List.append_assoc, Nat.reduceSub]
theorem fp_endL (size : Nat) : (fpL size 16 ++ List.replicate (17 + gapP KL size - (1 + gapP KL size + 16)) 0).take (1 + gapP KL size + 16) = fillP KL size := by
  rw [← fp_lenL size 16, List.take_left]
  rfl

set_option linter.unusedVariables false in
set_option maxRecDepth 100000 in
set_option maxHeartbeats 2000000 in
theorem fillL (size : Nat) (hs : size ≤ 2251799813685248) (w : World) :
    Calls Tryd.prog 34 #[.agg kcL, iN .i64 size] w fun e w' => e = .returned (.string ⟨(fillP KL size).toArray⟩) ∧ Below w.heap.size w w' := by
  have hg := gap_leL size
  have H0 := HA.start w
  go_enter Tryd.func34, Tryd.ntmps34
  refine wp_seq ?_
  -- region 0
  refine wl_region ?_
  refine wl_make H0 52 (by kernel_rfl) (run_box36 (c := kcL) (by kernel_rfl)) ?_
  intro q1 w2 h3
  refine wl_val (.string { data := #[] }) (by kernel_rfl) (by kernel_rfl) ?_
  refine wl_nil ?_
  refine then_at (F := ⟨(.agg kcL :: iN .i64 size :: pt q1 :: un :: .string { data := #[] } :: List.replicate 50 un).toArray, []⟩) (by kernel_rfl) ?_
  refine wp_seq ?_
  -- region 1
  refine wl_region ?_
  refine wl_val (.pointer (some ⟨q1, 3, none⟩)) (by kernel_rfl) (by kernel_rfl) ?_
  refine wl_val (iN .i64 16) (by kernel_rfl) (run_load1 (fun w => Tryd.isAgg3 w) (by kernel_rfl) (((h3.get 0 rfl).cell 3).trans (by kernel_rfl))) ?_
  refine wl_val (iN .i64 17) (by kernel_rfl) (run_add (k := .i64) (a := 1) (b := 16) (by kernel_rfl) (by kernel_rfl) (by decide)) ?_
  refine wl_val (iN .i64 17) (by kernel_rfl) (by kernel_rfl) ?_
  refine wl_nil ?_
  refine then_at (F := ⟨(.agg kcL :: iN .i64 size :: pt q1 :: un :: .string { data := #[] } :: iN .i64 17 :: un :: un :: un :: un :: .pointer (some ⟨q1, 3, none⟩) :: iN .i64 16 :: iN .i64 17 :: List.replicate 42 un).toArray, []⟩) (by kernel_rfl) ?_
  refine wp_seq ?_
  -- region 2
  refine wp_region_sure ⟨(.agg kcL :: iN .i64 size :: pt q1 :: un :: .string { data := #[] } :: iN .i64 17 :: iN .i64 (gapP KL size) :: un :: un :: un :: .pointer (some ⟨q1, 3, none⟩) :: iN .i64 16 :: iN .i64 17 :: .pointer (some ⟨q1, 1, none⟩) :: iN .i64 128 :: iN .i64 127 :: iN .i64 size :: iN .i64 17 :: iN .i64 (size + 17) :: iN .i64 ((size + 17) - 1) :: .pointer (some ⟨q1, 1, none⟩) :: iN .i64 128 :: iN .i64 (((size + 17) - 1) % 128) :: iN .i64 (gapP KL size) :: List.replicate 31 un).toArray, []⟩ (HA w [(q1, 52, kcL)]) [.pointer (some ⟨q1, 1, none⟩), iN .i64 128, iN .i64 127, iN .i64 size, iN .i64 17, iN .i64 (size + 17), iN .i64 ((size + 17) - 1), .pointer (some ⟨q1, 1, none⟩), iN .i64 128, iN .i64 (((size + 17) - 1) % 128), iN .i64 (gapP KL size), iN .i64 (gapP KL size)] (by kernel_rfl) (by kernel_rfl) (by kernel_rfl) (by kernel_rfl) (fun _ _ _ h => h) h3.drew ?_ ?_
  · refine AllSure.cons (OpSure.take (v := .pointer (some ⟨q1, 1, none⟩)) (by kernel_rfl) (by kernel_rfl) (fun _ _ => (by kernel_rfl))) ?_
    refine AllSure.cons (OpSure.take (v := iN .i64 128) (by kernel_rfl) (by kernel_rfl) (fun _ h => run_load1 (fun w => Tryd.isAgg3 w) (by kernel_rfl) (((h.get 0 rfl).cell 1).trans (by kernel_rfl)))) ?_
    refine AllSure.cons (OpSure.take (v := iN .i64 127) (by kernel_rfl) (by kernel_rfl) (fun _ _ => (run_sub (k := .i64) (a := 128) (b := 1) (by kernel_rfl) (by kernel_rfl) (by decide) (by decide)))) ?_
    refine AllSure.cons (OpSure.take (v := iN .i64 size) (by kernel_rfl) (by kernel_rfl) (fun _ _ => (by kernel_rfl))) ?_
    refine AllSure.cons (OpSure.take (v := iN .i64 17) (by kernel_rfl) (by kernel_rfl) (fun _ _ => (by kernel_rfl))) ?_
    refine AllSure.cons (OpSure.take (v := iN .i64 (size + 17)) (by kernel_rfl) (by kernel_rfl) (fun _ _ => (run_add (k := .i64) (a := size) (b := 17) (by kernel_rfl) (by kernel_rfl) (by simp only [top]; omega)))) ?_
    refine AllSure.cons (OpSure.take (v := iN .i64 ((size + 17) - 1)) (by kernel_rfl) (by kernel_rfl) (fun _ _ => (run_sub (k := .i64) (a := size + 17) (b := 1) (by kernel_rfl) (by kernel_rfl) (by omega) (by simp only [top]; omega)))) ?_
    refine AllSure.cons (OpSure.take (v := .pointer (some ⟨q1, 1, none⟩)) (by kernel_rfl) (by kernel_rfl) (fun _ _ => (by kernel_rfl))) ?_
    refine AllSure.cons (OpSure.take (v := iN .i64 128) (by kernel_rfl) (by kernel_rfl) (fun _ h => run_load1 (fun w => Tryd.isAgg3 w) (by kernel_rfl) (((h.get 0 rfl).cell 1).trans (by kernel_rfl)))) ?_
    refine AllSure.cons (OpSure.take (v := iN .i64 (((size + 17) - 1) % 128)) (by kernel_rfl) (by kernel_rfl) (fun _ _ => (run_rem (k := .i64) (a := (size + 17) - 1) (b := 128) (by kernel_rfl) (by kernel_rfl) (by omega)))) ?_
    refine AllSure.cons (OpSure.take (v := iN .i64 (gapP KL size)) (by kernel_rfl) (by kernel_rfl) (fun _ _ => (run_sub (k := .i64) (a := 127) (b := (size + 17 - 1) % 128) (by kernel_rfl) (by kernel_rfl) (by omega) (by decide)))) ?_
    refine AllSure.cons (OpSure.take (v := iN .i64 (gapP KL size)) (by kernel_rfl) (by kernel_rfl) (fun _ _ => (by kernel_rfl))) ?_
    exact AllSure.nil
  intro w4 h5
  refine then_at (F := ⟨(.agg kcL :: iN .i64 size :: pt q1 :: un :: .string { data := #[] } :: iN .i64 17 :: iN .i64 (gapP KL size) :: un :: un :: un :: .pointer (some ⟨q1, 3, none⟩) :: iN .i64 16 :: iN .i64 17 :: .pointer (some ⟨q1, 1, none⟩) :: iN .i64 128 :: iN .i64 127 :: iN .i64 size :: iN .i64 17 :: iN .i64 (size + 17) :: iN .i64 ((size + 17) - 1) :: .pointer (some ⟨q1, 1, none⟩) :: iN .i64 128 :: iN .i64 (((size + 17) - 1) % 128) :: iN .i64 (gapP KL size) :: List.replicate 31 un).toArray, []⟩) (by kernel_rfl) ?_
  refine wp_seq ?_
  -- region 3
  refine wl_region ?_
  refine wl_val (iN .i64 (gapP KL size)) (by kernel_rfl) (by kernel_rfl) ?_
  refine wl_val (iN .i64 (1 + (gapP KL size))) (by kernel_rfl) (run_add (k := .i64) (a := 1) (b := gapP KL size) (by kernel_rfl) (by kernel_rfl) (by simp only [top]; omega)) ?_
  refine wl_val (iN .i64 17) (by kernel_rfl) (by kernel_rfl) ?_
  refine wl_val (iN .i64 (gapP KL size)) (by kernel_rfl) (by kernel_rfl) ?_
  refine wl_val (iN .i64 (17 + (gapP KL size))) (by kernel_rfl) (run_add (k := .i64) (a := 17) (b := gapP KL size) (by kernel_rfl) (by kernel_rfl) (by simp only [top]; omega)) ?_
  refine wl_mks (n := 1 + (gapP KL size)) (m := 17 + (gapP KL size)) h5 5 (by kernel_rfl) (run_mk (k := .i64) (m := 1 + (gapP KL size)) (c := 17 + (gapP KL size)) (by kernel_rfl) (by kernel_rfl) (by omega) (by omega)) ?_
  intro q6 w7 h8
  refine wl_val (.slice (some ⟨q6, 0, none⟩) (1 + (gapP KL size)) (17 + (gapP KL size))) (by kernel_rfl) (by kernel_rfl) ?_
  refine wl_nil ?_
  refine then_at (F := ⟨(.agg kcL :: iN .i64 size :: pt q1 :: un :: .string { data := #[] } :: iN .i64 17 :: iN .i64 (gapP KL size) :: .slice (some ⟨q6, 0, none⟩) (1 + (gapP KL size)) (17 + (gapP KL size)) :: un :: un :: .pointer (some ⟨q1, 3, none⟩) :: iN .i64 16 :: iN .i64 17 :: .pointer (some ⟨q1, 1, none⟩) :: iN .i64 128 :: iN .i64 127 :: iN .i64 size :: iN .i64 17 :: iN .i64 (size + 17) :: iN .i64 ((size + 17) - 1) :: .pointer (some ⟨q1, 1, none⟩) :: iN .i64 128 :: iN .i64 (((size + 17) - 1) % 128) :: iN .i64 (gapP KL size) :: iN .i64 (gapP KL size) :: iN .i64 (1 + (gapP KL size)) :: iN .i64 17 :: iN .i64 (gapP KL size) :: iN .i64 (17 + (gapP KL size)) :: .slice (some ⟨q6, 0, none⟩) (1 + (gapP KL size)) (17 + (gapP KL size)) :: List.replicate 25 un).toArray, []⟩) (by kernel_rfl) ?_
  refine wp_seq ?_
  -- region 4
  refine wl_region ?_
  refine wl_val (.slice (some ⟨q6, 0, none⟩) (1 + (gapP KL size)) (17 + (gapP KL size))) (by kernel_rfl) (by kernel_rfl) ?_
  refine wl_val (.pointer (some ⟨q6, 0, none⟩)) (by kernel_rfl) (run_addr_slice (q := q6) (n := 1 + (gapP KL size)) (m := 17 + (gapP KL size)) (a := 0) Tryd.underlying31 (fun w => Tryd.sizeOf5 w) (by kernel_rfl) (by kernel_rfl) (by omega)) ?_
  refine wl_put (k := .u8) (z := ((128 : Nat) : Int)) h8 0 rfl 0 (by rw [bc_size, (List.length_replicate)]; omega) (by kernel_rfl) (fun w => Tryd.sizeOf5 w) (by kernel_rfl) (by kernel_rfl) ?_
  intro w9 h10
  have h11 : HA w [(q6, 5, bc (fpL size 0 ++ List.replicate (17 + gapP KL size - (1 + gapP KL size + 0)) 0)), (q1, 52, kcL)] w9 := by
    have e : (bc (List.replicate (17 + (gapP KL size)) 0)).setIfInBounds 0 (.int .u8 ((128 : Nat) : Int)) = bc (fpL size 0 ++ List.replicate (17 + gapP KL size - (1 + gapP KL size + 0)) 0) := (fp_startL size)
    rw [← e]; exact h10
  clear h10
  refine wl_nil ?_
  refine then_at (F := ⟨(.agg kcL :: iN .i64 size :: pt q1 :: un :: .string { data := #[] } :: iN .i64 17 :: iN .i64 (gapP KL size) :: .slice (some ⟨q6, 0, none⟩) (1 + (gapP KL size)) (17 + (gapP KL size)) :: un :: un :: .pointer (some ⟨q1, 3, none⟩) :: iN .i64 16 :: iN .i64 17 :: .pointer (some ⟨q1, 1, none⟩) :: iN .i64 128 :: iN .i64 127 :: iN .i64 size :: iN .i64 17 :: iN .i64 (size + 17) :: iN .i64 ((size + 17) - 1) :: .pointer (some ⟨q1, 1, none⟩) :: iN .i64 128 :: iN .i64 (((size + 17) - 1) % 128) :: iN .i64 (gapP KL size) :: iN .i64 (gapP KL size) :: iN .i64 (1 + (gapP KL size)) :: iN .i64 17 :: iN .i64 (gapP KL size) :: iN .i64 (17 + (gapP KL size)) :: .slice (some ⟨q6, 0, none⟩) (1 + (gapP KL size)) (17 + (gapP KL size)) :: .slice (some ⟨q6, 0, none⟩) (1 + (gapP KL size)) (17 + (gapP KL size)) :: pt q6 :: List.replicate 23 un).toArray, []⟩) (by kernel_rfl) ?_
  refine wp_seq ?_
  -- region 5
  refine wl_region ?_
  refine wl_val (iN .i64 size) (by kernel_rfl) (by kernel_rfl) ?_
  refine wl_val (iN .u64 size) (by kernel_rfl) (run_conv .u64 Tryd.underlying3 Tryd.underlying63 (by kernel_rfl) (by simp only [top]; omega)) ?_
  refine wl_val (iN .u64 (8 * size)) (by kernel_rfl) (run_mul (k := .u64) (a := 8) (b := size) (by kernel_rfl) (by kernel_rfl) (by simp only [top]; omega)) ?_
  refine wl_val (iN .u64 (8 * size)) (by kernel_rfl) (by kernel_rfl) ?_
  refine wl_nil ?_
  refine then_at (F := ⟨(.agg kcL :: iN .i64 size :: pt q1 :: un :: .string { data := #[] } :: iN .i64 17 :: iN .i64 (gapP KL size) :: .slice (some ⟨q6, 0, none⟩) (1 + (gapP KL size)) (17 + (gapP KL size)) :: iN .u64 (8 * size) :: un :: .pointer (some ⟨q1, 3, none⟩) :: iN .i64 16 :: iN .i64 17 :: .pointer (some ⟨q1, 1, none⟩) :: iN .i64 128 :: iN .i64 127 :: iN .i64 size :: iN .i64 17 :: iN .i64 (size + 17) :: iN .i64 ((size + 17) - 1) :: .pointer (some ⟨q1, 1, none⟩) :: iN .i64 128 :: iN .i64 (((size + 17) - 1) % 128) :: iN .i64 (gapP KL size) :: iN .i64 (gapP KL size) :: iN .i64 (1 + (gapP KL size)) :: iN .i64 17 :: iN .i64 (gapP KL size) :: iN .i64 (17 + (gapP KL size)) :: .slice (some ⟨q6, 0, none⟩) (1 + (gapP KL size)) (17 + (gapP KL size)) :: .slice (some ⟨q6, 0, none⟩) (1 + (gapP KL size)) (17 + (gapP KL size)) :: pt q6 :: iN .i64 size :: iN .u64 size :: iN .u64 (8 * size) :: List.replicate 20 un).toArray, []⟩) (by kernel_rfl) ?_
  refine wp_seq ?_
  refine wp_seq ?_
  -- region 6
  refine wl_region ?_
  refine wl_val (.pointer (some ⟨q1, 3, none⟩)) (by kernel_rfl) (by kernel_rfl) ?_
  refine wl_val (iN .i64 16) (by kernel_rfl) (run_load1 (fun w => Tryd.isAgg3 w) (by kernel_rfl) (((h11.get 1 rfl).cell 3).trans (by kernel_rfl))) ?_
  refine wl_val (iN .i64 0) (by kernel_rfl) (by kernel_rfl) ?_
  refine wl_nil ?_
  refine then_at (F := ⟨(.agg kcL :: iN .i64 size :: pt q1 :: un :: .string { data := #[] } :: iN .i64 17 :: iN .i64 (gapP KL size) :: .slice (some ⟨q6, 0, none⟩) (1 + (gapP KL size)) (17 + (gapP KL size)) :: iN .u64 (8 * size) :: un :: .pointer (some ⟨q1, 3, none⟩) :: iN .i64 16 :: iN .i64 17 :: .pointer (some ⟨q1, 1, none⟩) :: iN .i64 128 :: iN .i64 127 :: iN .i64 size :: iN .i64 17 :: iN .i64 (size + 17) :: iN .i64 ((size + 17) - 1) :: .pointer (some ⟨q1, 1, none⟩) :: iN .i64 128 :: iN .i64 (((size + 17) - 1) % 128) :: iN .i64 (gapP KL size) :: iN .i64 (gapP KL size) :: iN .i64 (1 + (gapP KL size)) :: iN .i64 17 :: iN .i64 (gapP KL size) :: iN .i64 (17 + (gapP KL size)) :: .slice (some ⟨q6, 0, none⟩) (1 + (gapP KL size)) (17 + (gapP KL size)) :: .slice (some ⟨q6, 0, none⟩) (1 + (gapP KL size)) (17 + (gapP KL size)) :: pt q6 :: iN .i64 size :: iN .u64 size :: iN .u64 (8 * size) :: .pointer (some ⟨q1, 3, none⟩) :: iN .i64 16 :: iN .i64 0 :: List.replicate 17 un).toArray, []⟩) (by kernel_rfl) ?_
  refine wp_block ?_
  refine wp_count (fun k A w' => ∃ u12 : Nat → Value, A = ⟨(.agg kcL :: iN .i64 size :: pt q1 :: un :: .string { data := #[] } :: iN .i64 17 :: iN .i64 (gapP KL size) :: .slice (some ⟨q6, 0, none⟩) (1 + gapP KL size + k) (17 + gapP KL size) :: iN .u64 (8 * size) :: u12 9 :: .pointer (some ⟨q1, 3, none⟩) :: iN .i64 16 :: iN .i64 17 :: .pointer (some ⟨q1, 1, none⟩) :: iN .i64 128 :: iN .i64 127 :: iN .i64 size :: iN .i64 17 :: iN .i64 (size + 17) :: iN .i64 ((size + 17) - 1) :: .pointer (some ⟨q1, 1, none⟩) :: iN .i64 128 :: iN .i64 (((size + 17) - 1) % 128) :: iN .i64 (gapP KL size) :: iN .i64 (gapP KL size) :: iN .i64 (1 + (gapP KL size)) :: iN .i64 17 :: iN .i64 (gapP KL size) :: iN .i64 (17 + (gapP KL size)) :: .slice (some ⟨q6, 0, none⟩) (1 + (gapP KL size)) (17 + (gapP KL size)) :: .slice (some ⟨q6, 0, none⟩) (1 + (gapP KL size)) (17 + (gapP KL size)) :: pt q6 :: iN .i64 size :: iN .u64 size :: iN .u64 (8 * size) :: .pointer (some ⟨q1, 3, none⟩) :: iN .i64 16 :: iN .i64 k :: u12 38 :: u12 39 :: u12 40 :: u12 41 :: u12 42 :: u12 43 :: u12 44 :: u12 45 :: u12 46 :: u12 47 :: u12 48 :: u12 49 :: u12 50 :: u12 51 :: u12 52 :: List.replicate 2 un).toArray, []⟩ ∧ HA w [(q6, 5, bc (fpL size k ++ List.replicate (17 + gapP KL size - (1 + gapP KL size + k)) 0)), (q1, 52, kcL)] w') 16 ?_ ?_ ?_
  · exact ⟨fun ii => (([(9, undef), (38, undef), (39, undef), (40, undef), (41, undef), (42, undef), (43, undef), (44, undef), (45, undef), (46, undef), (47, undef), (48, undef), (49, undef), (50, undef), (51, undef), (52, undef)] : List (Nat × Value)).find? (·.1 == ii)).elim undef (·.2), by kernel_rfl, h11⟩
  · rintro k hk _ w13 ⟨u12, rfl, h14⟩
    refine wp_seq ?_
    -- region 7
    refine wl_region ?_
    refine wl_val (.bool true) (by kernel_rfl) (run_lss (k := .i64) (a := k) (b := 16) (by kernel_rfl) (by kernel_rfl) true (decide_eq_true hk)) ?_
    refine wl_nil ?_
    refine then_at (F := ⟨(.agg kcL :: iN .i64 size :: pt q1 :: un :: .string { data := #[] } :: iN .i64 17 :: iN .i64 (gapP KL size) :: .slice (some ⟨q6, 0, none⟩) (1 + gapP KL size + k) (17 + gapP KL size) :: iN .u64 (8 * size) :: u12 9 :: .pointer (some ⟨q1, 3, none⟩) :: iN .i64 16 :: iN .i64 17 :: .pointer (some ⟨q1, 1, none⟩) :: iN .i64 128 :: iN .i64 127 :: iN .i64 size :: iN .i64 17 :: iN .i64 (size + 17) :: iN .i64 ((size + 17) - 1) :: .pointer (some ⟨q1, 1, none⟩) :: iN .i64 128 :: iN .i64 (((size + 17) - 1) % 128) :: iN .i64 (gapP KL size) :: iN .i64 (gapP KL size) :: iN .i64 (1 + (gapP KL size)) :: iN .i64 17 :: iN .i64 (gapP KL size) :: iN .i64 (17 + (gapP KL size)) :: .slice (some ⟨q6, 0, none⟩) (1 + (gapP KL size)) (17 + (gapP KL size)) :: .slice (some ⟨q6, 0, none⟩) (1 + (gapP KL size)) (17 + (gapP KL size)) :: pt q6 :: iN .i64 size :: iN .u64 size :: iN .u64 (8 * size) :: .pointer (some ⟨q1, 3, none⟩) :: iN .i64 16 :: iN .i64 k :: .bool true :: u12 39 :: u12 40 :: u12 41 :: u12 42 :: u12 43 :: u12 44 :: u12 45 :: u12 46 :: u12 47 :: u12 48 :: u12 49 :: u12 50 :: u12 51 :: u12 52 :: List.replicate 2 un).toArray, []⟩) (by kernel_rfl) ?_
    refine wp_seq ?_
    refine wp_cond_true (by kernel_rfl) ?_
    refine wp_skip ?_
    refine then_at (F := ⟨(.agg kcL :: iN .i64 size :: pt q1 :: un :: .string { data := #[] } :: iN .i64 17 :: iN .i64 (gapP KL size) :: .slice (some ⟨q6, 0, none⟩) (1 + gapP KL size + k) (17 + gapP KL size) :: iN .u64 (8 * size) :: u12 9 :: .pointer (some ⟨q1, 3, none⟩) :: iN .i64 16 :: iN .i64 17 :: .pointer (some ⟨q1, 1, none⟩) :: iN .i64 128 :: iN .i64 127 :: iN .i64 size :: iN .i64 17 :: iN .i64 (size + 17) :: iN .i64 ((size + 17) - 1) :: .pointer (some ⟨q1, 1, none⟩) :: iN .i64 128 :: iN .i64 (((size + 17) - 1) % 128) :: iN .i64 (gapP KL size) :: iN .i64 (gapP KL size) :: iN .i64 (1 + (gapP KL size)) :: iN .i64 17 :: iN .i64 (gapP KL size) :: iN .i64 (17 + (gapP KL size)) :: .slice (some ⟨q6, 0, none⟩) (1 + (gapP KL size)) (17 + (gapP KL size)) :: .slice (some ⟨q6, 0, none⟩) (1 + (gapP KL size)) (17 + (gapP KL size)) :: pt q6 :: iN .i64 size :: iN .u64 size :: iN .u64 (8 * size) :: .pointer (some ⟨q1, 3, none⟩) :: iN .i64 16 :: iN .i64 k :: .bool true :: u12 39 :: u12 40 :: u12 41 :: u12 42 :: u12 43 :: u12 44 :: u12 45 :: u12 46 :: u12 47 :: u12 48 :: u12 49 :: u12 50 :: u12 51 :: u12 52 :: List.replicate 2 un).toArray, []⟩) (by kernel_rfl) ?_
    refine wp_seq ?_
    refine wp_block ?_
    refine wp_seq ?_
    -- region 8
    refine wl_region ?_
    refine wl_val (iN .i64 k) (by kernel_rfl) (by kernel_rfl) ?_
    refine wl_val (iN .i64 k) (by kernel_rfl) (by kernel_rfl) ?_
    refine wl_nil ?_
    refine then_at (F := ⟨(.agg kcL :: iN .i64 size :: pt q1 :: un :: .string { data := #[] } :: iN .i64 17 :: iN .i64 (gapP KL size) :: .slice (some ⟨q6, 0, none⟩) (1 + gapP KL size + k) (17 + gapP KL size) :: iN .u64 (8 * size) :: iN .i64 k :: .pointer (some ⟨q1, 3, none⟩) :: iN .i64 16 :: iN .i64 17 :: .pointer (some ⟨q1, 1, none⟩) :: iN .i64 128 :: iN .i64 127 :: iN .i64 size :: iN .i64 17 :: iN .i64 (size + 17) :: iN .i64 ((size + 17) - 1) :: .pointer (some ⟨q1, 1, none⟩) :: iN .i64 128 :: iN .i64 (((size + 17) - 1) % 128) :: iN .i64 (gapP KL size) :: iN .i64 (gapP KL size) :: iN .i64 (1 + (gapP KL size)) :: iN .i64 17 :: iN .i64 (gapP KL size) :: iN .i64 (17 + (gapP KL size)) :: .slice (some ⟨q6, 0, none⟩) (1 + (gapP KL size)) (17 + (gapP KL size)) :: .slice (some ⟨q6, 0, none⟩) (1 + (gapP KL size)) (17 + (gapP KL size)) :: pt q6 :: iN .i64 size :: iN .u64 size :: iN .u64 (8 * size) :: .pointer (some ⟨q1, 3, none⟩) :: iN .i64 16 :: iN .i64 k :: .bool true :: iN .i64 k :: u12 40 :: u12 41 :: u12 42 :: u12 43 :: u12 44 :: u12 45 :: u12 46 :: u12 47 :: u12 48 :: u12 49 :: u12 50 :: u12 51 :: u12 52 :: List.replicate 2 un).toArray, []⟩) (by kernel_rfl) ?_
    -- region 9
    refine wl_region ?_
    refine wl_val (.slice (some ⟨q6, 0, none⟩) (1 + gapP KL size + k) (17 + gapP KL size)) (by kernel_rfl) (by kernel_rfl) ?_
    refine wl_val (iN .u64 (8 * size)) (by kernel_rfl) (by kernel_rfl) ?_
    refine wl_val (.pointer (some ⟨q1, 3, none⟩)) (by kernel_rfl) (by kernel_rfl) ?_
    refine wl_val (iN .i64 16) (by kernel_rfl) (run_load1 (fun w => Tryd.isAgg3 w) (by kernel_rfl) (((h14.get 1 rfl).cell 3).trans (by kernel_rfl))) ?_
    refine wl_val (iN .i64 15) (by kernel_rfl) (run_sub (k := .i64) (a := 16) (b := 1) (by kernel_rfl) (by kernel_rfl) (by decide) (by decide)) ?_
    refine wl_val (iN .i64 k) (by kernel_rfl) (by kernel_rfl) ?_
    refine wl_val (iN .i64 (15 - k)) (by kernel_rfl) (run_sub (k := .i64) (a := 15) (b := k) (by kernel_rfl) (by kernel_rfl) (by omega) (by simp only [top]; omega)) ?_
    refine wl_val (iN .i64 (8 * (15 - k))) (by kernel_rfl) (run_mul (k := .i64) (a := 8) (b := 15 - k) (by kernel_rfl) (by kernel_rfl) (by simp only [top]; omega)) ?_
    refine wl_val (iN .u64 ((8 * size) / 2 ^ (8 * (15 - k)))) (by kernel_rfl) (run_shrn (k2 := .i64) (a := 8 * size) (b := 8 * (15 - k)) (by omega) (by kernel_rfl) (by kernel_rfl)) ?_
    refine wl_val (by8 (UInt8.ofNat ((8 * size) / 2 ^ (8 * (15 - k))))) (by kernel_rfl) (run_lown (a := (8 * size) / 2 ^ (8 * (15 - k))) (by kernel_rfl) Tryd.underlying63 Tryd.underlying5) ?_
    refine wl_mks (n := 1) (m := 1) h14 5 (by kernel_rfl) (run_build1 (u := UInt8.ofNat ((8 * size) / 2 ^ (8 * (15 - k)))) (by kernel_rfl)) ?_
    intro q15 w16 h17
    refine wl_app (q := q6) (r := q15) (m := 1 + gapP KL size + k) (c := 17 + gapP KL size) (j := 1) (c2 := 1) (l := fpL size k ++ List.replicate (17 + gapP KL size - (1 + gapP KL size + k)) 0) (n := [UInt8.ofNat ((8 * size) / 2 ^ (8 * (15 - k)))]) (l' := fpL size (k + 1) ++ List.replicate (17 + gapP KL size - (1 + gapP KL size + (k + 1))) 0) h17 1 0 rfl rfl (by kernel_rfl) (by kernel_rfl) (by kernel_rfl) rfl (by omega) (fpp_lenL size k (by omega)) (fp_stepL size k hk) ?_
    intro w18 (h19 : HA w [(q15, 5, bc ([UInt8.ofNat ((8 * size) / 2 ^ (8 * (15 - k)))])), (q6, 5, bc (fpL size (k + 1) ++ List.replicate (17 + gapP KL size - (1 + gapP KL size + (k + 1))) 0)), (q1, 52, kcL)] w18)
    have h20 : HA w [(q6, 5, bc (fpL size (k + 1) ++ List.replicate (17 + gapP KL size - (1 + gapP KL size + (k + 1))) 0)), (q1, 52, kcL)] w18 := h19.tl
    clear h19
    refine wl_val (.slice (some ⟨q6, 0, none⟩) (1 + gapP KL size + k + 1) (17 + gapP KL size)) (by kernel_rfl) (by kernel_rfl) ?_
    refine wl_nil ?_
    refine block_normal ?_
    refine then_at (F := ⟨(.agg kcL :: iN .i64 size :: pt q1 :: un :: .string { data := #[] } :: iN .i64 17 :: iN .i64 (gapP KL size) :: .slice (some ⟨q6, 0, none⟩) (1 + gapP KL size + k + 1) (17 + gapP KL size) :: iN .u64 (8 * size) :: iN .i64 k :: .pointer (some ⟨q1, 3, none⟩) :: iN .i64 16 :: iN .i64 17 :: .pointer (some ⟨q1, 1, none⟩) :: iN .i64 128 :: iN .i64 127 :: iN .i64 size :: iN .i64 17 :: iN .i64 (size + 17) :: iN .i64 ((size + 17) - 1) :: .pointer (some ⟨q1, 1, none⟩) :: iN .i64 128 :: iN .i64 (((size + 17) - 1) % 128) :: iN .i64 (gapP KL size) :: iN .i64 (gapP KL size) :: iN .i64 (1 + (gapP KL size)) :: iN .i64 17 :: iN .i64 (gapP KL size) :: iN .i64 (17 + (gapP KL size)) :: .slice (some ⟨q6, 0, none⟩) (1 + (gapP KL size)) (17 + (gapP KL size)) :: .slice (some ⟨q6, 0, none⟩) (1 + (gapP KL size)) (17 + (gapP KL size)) :: pt q6 :: iN .i64 size :: iN .u64 size :: iN .u64 (8 * size) :: .pointer (some ⟨q1, 3, none⟩) :: iN .i64 16 :: iN .i64 k :: .bool true :: iN .i64 k :: .slice (some ⟨q6, 0, none⟩) (1 + gapP KL size + k) (17 + gapP KL size) :: iN .u64 (8 * size) :: .pointer (some ⟨q1, 3, none⟩) :: iN .i64 16 :: iN .i64 15 :: iN .i64 k :: iN .i64 (15 - k) :: iN .i64 (8 * (15 - k)) :: iN .u64 ((8 * size) / 2 ^ (8 * (15 - k))) :: by8 (UInt8.ofNat ((8 * size) / 2 ^ (8 * (15 - k)))) :: .slice (some ⟨q15, 0, none⟩) 1 1 :: .slice (some ⟨q6, 0, none⟩) (1 + gapP KL size + k + 1) (17 + gapP KL size) :: u12 52 :: List.replicate 2 un).toArray, []⟩) (by kernel_rfl) ?_
    -- region 10
    refine wl_region ?_
    refine wl_val (iN .i64 (k + 1)) (by kernel_rfl) (run_add (k := .i64) (a := k) (b := 1) (by kernel_rfl) (by kernel_rfl) (by simp only [top]; omega)) ?_
    refine wl_val (iN .i64 (k + 1)) (by kernel_rfl) (by kernel_rfl) ?_
    refine wl_nil ?_
    exact then_I ⟨fun ii => (([(9, iN .i64 k), (38, .bool true), (39, iN .i64 k), (40, .slice (some ⟨q6, 0, none⟩) (1 + gapP KL size + k) (17 + gapP KL size)), (41, iN .u64 (8 * size)), (42, .pointer (some ⟨q1, 3, none⟩)), (43, iN .i64 16), (44, iN .i64 15), (45, iN .i64 k), (46, iN .i64 (15 - k)), (47, iN .i64 (8 * (15 - k))), (48, iN .u64 ((8 * size) / 2 ^ (8 * (15 - k)))), (49, by8 (UInt8.ofNat ((8 * size) / 2 ^ (8 * (15 - k))))), (50, .slice (some ⟨q15, 0, none⟩) 1 1), (51, .slice (some ⟨q6, 0, none⟩) (1 + gapP KL size + k + 1) (17 + gapP KL size)), (52, iN .i64 (k + 1))] : List (Nat × Value)).find? (·.1 == ii)).elim undef (·.2), by kernel_rfl, h20⟩
  · rintro _ w21 ⟨u12, rfl, h22⟩
    refine wp_seq ?_
    -- region 7
    refine wl_region ?_
    refine wl_val (.bool false) (by kernel_rfl) (run_lss (k := .i64) (a := 16) (b := 16) (by kernel_rfl) (by kernel_rfl) false (by decide)) ?_
    refine wl_nil ?_
    refine then_at (F := ⟨(.agg kcL :: iN .i64 size :: pt q1 :: un :: .string { data := #[] } :: iN .i64 17 :: iN .i64 (gapP KL size) :: .slice (some ⟨q6, 0, none⟩) (1 + gapP KL size + 16) (17 + gapP KL size) :: iN .u64 (8 * size) :: u12 9 :: .pointer (some ⟨q1, 3, none⟩) :: iN .i64 16 :: iN .i64 17 :: .pointer (some ⟨q1, 1, none⟩) :: iN .i64 128 :: iN .i64 127 :: iN .i64 size :: iN .i64 17 :: iN .i64 (size + 17) :: iN .i64 ((size + 17) - 1) :: .pointer (some ⟨q1, 1, none⟩) :: iN .i64 128 :: iN .i64 (((size + 17) - 1) % 128) :: iN .i64 (gapP KL size) :: iN .i64 (gapP KL size) :: iN .i64 (1 + (gapP KL size)) :: iN .i64 17 :: iN .i64 (gapP KL size) :: iN .i64 (17 + (gapP KL size)) :: .slice (some ⟨q6, 0, none⟩) (1 + (gapP KL size)) (17 + (gapP KL size)) :: .slice (some ⟨q6, 0, none⟩) (1 + (gapP KL size)) (17 + (gapP KL size)) :: pt q6 :: iN .i64 size :: iN .u64 size :: iN .u64 (8 * size) :: .pointer (some ⟨q1, 3, none⟩) :: iN .i64 16 :: iN .i64 16 :: .bool false :: u12 39 :: u12 40 :: u12 41 :: u12 42 :: u12 43 :: u12 44 :: u12 45 :: u12 46 :: u12 47 :: u12 48 :: u12 49 :: u12 50 :: u12 51 :: u12 52 :: List.replicate 2 un).toArray, []⟩) (by kernel_rfl) ?_
    refine wp_seq ?_
    refine wp_cond_false (by kernel_rfl) ?_
    refine wp_exit ?_
    repeat first | refine then_exit ?_ | refine block_exit ?_ | refine block_exit_ne (by decide) ?_
    refine then_at (F := ⟨(.agg kcL :: iN .i64 size :: pt q1 :: un :: .string { data := #[] } :: iN .i64 17 :: iN .i64 (gapP KL size) :: .slice (some ⟨q6, 0, none⟩) (1 + gapP KL size + 16) (17 + gapP KL size) :: iN .u64 (8 * size) :: u12 9 :: .pointer (some ⟨q1, 3, none⟩) :: iN .i64 16 :: iN .i64 17 :: .pointer (some ⟨q1, 1, none⟩) :: iN .i64 128 :: iN .i64 127 :: iN .i64 size :: iN .i64 17 :: iN .i64 (size + 17) :: iN .i64 ((size + 17) - 1) :: .pointer (some ⟨q1, 1, none⟩) :: iN .i64 128 :: iN .i64 (((size + 17) - 1) % 128) :: iN .i64 (gapP KL size) :: iN .i64 (gapP KL size) :: iN .i64 (1 + (gapP KL size)) :: iN .i64 17 :: iN .i64 (gapP KL size) :: iN .i64 (17 + (gapP KL size)) :: .slice (some ⟨q6, 0, none⟩) (1 + (gapP KL size)) (17 + (gapP KL size)) :: .slice (some ⟨q6, 0, none⟩) (1 + (gapP KL size)) (17 + (gapP KL size)) :: pt q6 :: iN .i64 size :: iN .u64 size :: iN .u64 (8 * size) :: .pointer (some ⟨q1, 3, none⟩) :: iN .i64 16 :: iN .i64 16 :: .bool false :: u12 39 :: u12 40 :: u12 41 :: u12 42 :: u12 43 :: u12 44 :: u12 45 :: u12 46 :: u12 47 :: u12 48 :: u12 49 :: u12 50 :: u12 51 :: u12 52 :: List.replicate 2 un).toArray, []⟩) (by kernel_rfl) ?_
    refine wp_seq ?_
    -- region 11
    refine wl_region ?_
    refine wl_val (.slice (some ⟨q6, 0, none⟩) (1 + gapP KL size + 16) (17 + gapP KL size)) (by kernel_rfl) (by kernel_rfl) ?_
    refine wl_val (.string (⟨((fpL size 16 ++ List.replicate (17 + gapP KL size - (1 + gapP KL size + 16)) 0).take (1 + gapP KL size + 16)).toArray⟩)) (by kernel_rfl) (run_text (q := q6) (m := 1 + gapP KL size + 16) (c := 17 + gapP KL size) (l := fpL size 16 ++ List.replicate (17 + gapP KL size - (1 + gapP KL size + 16)) 0) (by kernel_rfl) (h22.get 0 rfl) (by rw [(fpp_lenL size 16 (by omega))]; omega)) ?_
    refine wl_val (.string (⟨((fpL size 16 ++ List.replicate (17 + gapP KL size - (1 + gapP KL size + 16)) 0).take (1 + gapP KL size + 16)).toArray⟩)) (by kernel_rfl) (by kernel_rfl) ?_
    refine wl_nil ?_
    refine then_at (F := ⟨(.agg kcL :: iN .i64 size :: pt q1 :: un :: .string (⟨((fpL size 16 ++ List.replicate (17 + gapP KL size - (1 + gapP KL size + 16)) 0).take (1 + gapP KL size + 16)).toArray⟩) :: iN .i64 17 :: iN .i64 (gapP KL size) :: .slice (some ⟨q6, 0, none⟩) (1 + gapP KL size + 16) (17 + gapP KL size) :: iN .u64 (8 * size) :: u12 9 :: .pointer (some ⟨q1, 3, none⟩) :: iN .i64 16 :: iN .i64 17 :: .pointer (some ⟨q1, 1, none⟩) :: iN .i64 128 :: iN .i64 127 :: iN .i64 size :: iN .i64 17 :: iN .i64 (size + 17) :: iN .i64 ((size + 17) - 1) :: .pointer (some ⟨q1, 1, none⟩) :: iN .i64 128 :: iN .i64 (((size + 17) - 1) % 128) :: iN .i64 (gapP KL size) :: iN .i64 (gapP KL size) :: iN .i64 (1 + (gapP KL size)) :: iN .i64 17 :: iN .i64 (gapP KL size) :: iN .i64 (17 + (gapP KL size)) :: .slice (some ⟨q6, 0, none⟩) (1 + (gapP KL size)) (17 + (gapP KL size)) :: .slice (some ⟨q6, 0, none⟩) (1 + (gapP KL size)) (17 + (gapP KL size)) :: pt q6 :: iN .i64 size :: iN .u64 size :: iN .u64 (8 * size) :: .pointer (some ⟨q1, 3, none⟩) :: iN .i64 16 :: iN .i64 16 :: .bool false :: u12 39 :: u12 40 :: u12 41 :: u12 42 :: u12 43 :: u12 44 :: u12 45 :: u12 46 :: u12 47 :: u12 48 :: u12 49 :: u12 50 :: u12 51 :: u12 52 :: .slice (some ⟨q6, 0, none⟩) (1 + gapP KL size + 16) (17 + gapP KL size) :: .string (⟨((fpL size 16 ++ List.replicate (17 + gapP KL size - (1 + gapP KL size + 16)) 0).take (1 + gapP KL size + 16)).toArray⟩) :: List.replicate 0 un).toArray, []⟩) (by kernel_rfl) ?_
    refine wp_ret ?_
    repeat first | refine then_ret ?_ | refine block_ret ?_
    exact bodyPost_ret (v := .string ⟨((fpL size 16 ++ List.replicate (17 + gapP KL size - (1 + gapP KL size + 16)) 0).take (1 + gapP KL size + 16)).toArray⟩) (by kernel_rfl) rfl ⟨by rw [fp_endL size], h22.old⟩
end Go.Proofs.YtmlldbkhphngeaaDoor
