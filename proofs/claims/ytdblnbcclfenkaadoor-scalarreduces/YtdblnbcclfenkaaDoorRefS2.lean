/-
  The reference's modulo.
-/
import Derived.Test.YtdblnbcclfenkaaDoorRefS2a
namespace Go.Proofs.YtdblnbcclfenkaaDoor
open Go.RowKit Num

theorem rorder_zero (w : World) : Calls Tryd.prog 37 #[] w fun e w' => e = .returned (rarr (2 ^ 0 * Lq)) ∧ Below w.heap.size w w' := by
  rw [Nat.pow_zero, Nat.one_mul]
  exact rorder_any w

set_option linter.unusedVariables false in
set_option maxRecDepth 100000 in
set_option maxHeartbeats 2000000 in
theorem rmodulo_any (a : Nat) (ha : a < 2 ^ 10 * Lq) (w : World) :
    Calls Tryd.prog 30 #[rarr a] w fun e w' => e = .returned (rarr (a % Lq)) ∧ Below w.heap.size w w' := by
  have H0 := HA.start w
  go_enter Tryd.func30, Tryd.ntmps30
  refine wp_seq ?_
  -- region 0
  refine wl_region ?_
  refine wl_make H0 37 (by kernel_rfl) (run_box37 (c := rl a) (by kernel_rfl)) ?_
  intro q1 w2 h3
  refine wl_make h3 37 (by kernel_rfl) run_alloc37 ?_
  intro q4 w5 h6
  refine wl_nil ?_
  refine then_at (F := ⟨(rarr a :: pt q1 :: pt q4 :: List.replicate 32 un).toArray, []⟩) (by kernel_rfl) ?_
  refine wp_seq ?_
  -- region 1
  refine wl_region ?_
  refine wl_make h6 57 (by kernel_rfl) run_alloc57 ?_
  intro q7 w8 h9
  refine wl_nil ?_
  refine then_at (F := ⟨(rarr a :: pt q1 :: pt q4 :: pt q7 :: List.replicate 31 un).toArray, []⟩) (by kernel_rfl) ?_
  refine wp_seq ?_
  -- region 2
  refine wl_region ?_
  refine wl_call (v := rarr (2 ^ 0 * Lq)) h9 (by kernel_rfl) enter37 #[] (by kernel_rfl) (rorder_zero w8) ?_
  intro w10 h11
  refine wl_val (.pointer (some ⟨q7, 36 * 0, none⟩)) (by kernel_rfl) (run_addr57 (q := q7) (a := 0) (by kernel_rfl) (by kernel_rfl) (by omega)) ?_
  refine wl_fillp (off := 36 * 0) (c' := rl (2 ^ 0 * Lq)) (c'' := tbl (0 + 1)) h11 0 rfl (by kernel_rfl) (by kernel_rfl) (by kernel_rfl) (info_rl _) (one_rl _) (by rw [tbl_size, rl_size]; omega) (tbl_splice 0 (by omega)) ?_
  intro w12 (h13 : HA w [(q7, 57, tbl (0 + 1)), (q4, 37, rl 0), (q1, 37, rl a)] w12)
  refine wl_nil ?_
  refine then_at (F := ⟨(rarr a :: pt q1 :: pt q4 :: pt q7 :: un :: un :: rarr (2 ^ 0 * Lq) :: .pointer (some ⟨q7, 36 * 0, none⟩) :: List.replicate 27 un).toArray, []⟩) (by kernel_rfl) ?_
  refine wp_seq ?_
  refine wp_seq ?_
  -- region 3
  refine wl_region ?_
  refine wl_val (iN .i64 1) (by kernel_rfl) (by kernel_rfl) ?_
  refine wl_nil ?_
  refine then_at (F := ⟨(rarr a :: pt q1 :: pt q4 :: pt q7 :: iN .i64 1 :: un :: rarr (2 ^ 0 * Lq) :: .pointer (some ⟨q7, 36 * 0, none⟩) :: List.replicate 27 un).toArray, []⟩) (by kernel_rfl) ?_
  refine wp_block ?_
  refine wp_count (fun k A w' => ∃ u14 : Nat → Value, A = ⟨(rarr a :: pt q1 :: pt q4 :: pt q7 :: iN .i64 (k + 1) :: un :: rarr (2 ^ 0 * Lq) :: .pointer (some ⟨q7, 36 * 0, none⟩) :: u14 8 :: u14 9 :: u14 10 :: u14 11 :: u14 12 :: u14 13 :: u14 14 :: u14 15 :: u14 16 :: u14 17 :: u14 18 :: List.replicate 16 un).toArray, []⟩ ∧ HA w [(q7, 57, tbl (k + 1)), (q4, 37, rl 0), (q1, 37, rl a)] w') 9 ?_ ?_ ?_
  · exact ⟨fun ii => (([(8, undef), (9, undef), (10, undef), (11, undef), (12, undef), (13, undef), (14, undef), (15, undef), (16, undef), (17, undef), (18, undef)] : List (Nat × Value)).find? (·.1 == ii)).elim undef (·.2), by kernel_rfl, h13⟩
  · rintro k hk _ w15 ⟨u14, rfl, h16⟩
    refine wp_seq ?_
    refine wp_seq ?_
    -- region 4
    refine wl_region ?_
    refine wl_val (iN .i64 (k + 1)) (by kernel_rfl) (by kernel_rfl) ?_
    refine wl_val (.bool true) (by kernel_rfl) (run_lss (k := .i64) (a := k + 1) (b := 10) (by kernel_rfl) (by kernel_rfl) true (decide_eq_true (by omega))) ?_
    refine wl_nil ?_
    refine then_at (F := ⟨(rarr a :: pt q1 :: pt q4 :: pt q7 :: iN .i64 (k + 1) :: un :: rarr (2 ^ 0 * Lq) :: .pointer (some ⟨q7, 36 * 0, none⟩) :: iN .i64 (k + 1) :: .bool true :: u14 10 :: u14 11 :: u14 12 :: u14 13 :: u14 14 :: u14 15 :: u14 16 :: u14 17 :: u14 18 :: List.replicate 16 un).toArray, []⟩) (by kernel_rfl) ?_
    refine wp_cond_true (by kernel_rfl) ?_
    refine wp_skip ?_
    refine then_at (F := ⟨(rarr a :: pt q1 :: pt q4 :: pt q7 :: iN .i64 (k + 1) :: un :: rarr (2 ^ 0 * Lq) :: .pointer (some ⟨q7, 36 * 0, none⟩) :: iN .i64 (k + 1) :: .bool true :: u14 10 :: u14 11 :: u14 12 :: u14 13 :: u14 14 :: u14 15 :: u14 16 :: u14 17 :: u14 18 :: List.replicate 16 un).toArray, []⟩) (by kernel_rfl) ?_
    refine wp_seq ?_
    refine wp_block ?_
    -- region 6
    refine wl_region ?_
    refine wl_val (iN .i64 (k + 1)) (by kernel_rfl) (by kernel_rfl) ?_
    refine wl_val (iN .i64 (k + 1)) (by kernel_rfl) (by kernel_rfl) ?_
    refine wl_val (iN .i64 k) (by kernel_rfl) (run_sub (k := .i64) (a := k + 1) (b := 1) (by kernel_rfl) (by kernel_rfl) (by omega) (by simp only [top]; omega)) ?_
    refine wl_val (.pointer (some ⟨q7, 36 * k, none⟩)) (by kernel_rfl) (run_addr57 (q := q7) (a := k) (by kernel_rfl) (by kernel_rfl) (by omega)) ?_
    refine wl_val (rarr (2 ^ k * Lq)) (by kernel_rfl) (run_row (q := q7) (a := k) (k := k + 1) (by kernel_rfl) (h16.get 0 rfl) (by omega) (by omega)) ?_
    refine wl_call (v := rarr (2 ^ (k + 1) * Lq)) h16 (by kernel_rfl) enter38 #[rarr (2 ^ k * Lq)] (by kernel_rfl) (rdouble_pow k w15) ?_
    intro w17 h18
    refine wl_val (.pointer (some ⟨q7, 36 * (k + 1), none⟩)) (by kernel_rfl) (run_addr57 (q := q7) (a := k + 1) (by kernel_rfl) (by kernel_rfl) (by omega)) ?_
    refine wl_fillp (off := 36 * (k + 1)) (c' := rl (2 ^ (k + 1) * Lq)) (c'' := tbl (k + 1 + 1)) h18 0 rfl (by kernel_rfl) (by kernel_rfl) (by kernel_rfl) (info_rl _) (one_rl _) (by rw [tbl_size, rl_size]; omega) (tbl_splice (k + 1) (by omega)) ?_
    intro w19 (h20 : HA w [(q7, 57, tbl (k + 1 + 1)), (q4, 37, rl 0), (q1, 37, rl a)] w19)
    refine wl_nil ?_
    refine block_normal ?_
    refine then_at (F := ⟨(rarr a :: pt q1 :: pt q4 :: pt q7 :: iN .i64 (k + 1) :: un :: rarr (2 ^ 0 * Lq) :: .pointer (some ⟨q7, 36 * 0, none⟩) :: iN .i64 (k + 1) :: .bool true :: u14 10 :: u14 11 :: iN .i64 (k + 1) :: iN .i64 (k + 1) :: iN .i64 k :: .pointer (some ⟨q7, 36 * k, none⟩) :: rarr (2 ^ k * Lq) :: rarr (2 ^ (k + 1) * Lq) :: .pointer (some ⟨q7, 36 * (k + 1), none⟩) :: List.replicate 16 un).toArray, []⟩) (by kernel_rfl) ?_
    -- region 5
    refine wl_region ?_
    refine wl_val (iN .i64 (k + 1)) (by kernel_rfl) (by kernel_rfl) ?_
    refine wl_val (iN .i64 ((k + 1) + 1)) (by kernel_rfl) (run_add (k := .i64) (a := k + 1) (b := 1) (by kernel_rfl) (by kernel_rfl) (by simp only [top]; omega)) ?_
    refine wl_val (iN .i64 ((k + 1) + 1)) (by kernel_rfl) (by kernel_rfl) ?_
    refine wl_nil ?_
    exact then_I ⟨fun ii => (([(8, iN .i64 (k + 1)), (9, .bool true), (10, iN .i64 (k + 1)), (11, iN .i64 ((k + 1) + 1)), (12, iN .i64 (k + 1)), (13, iN .i64 (k + 1)), (14, iN .i64 k), (15, .pointer (some ⟨q7, 36 * k, none⟩)), (16, rarr (2 ^ k * Lq)), (17, rarr (2 ^ (k + 1) * Lq)), (18, .pointer (some ⟨q7, 36 * (k + 1), none⟩))] : List (Nat × Value)).find? (·.1 == ii)).elim undef (·.2), by kernel_rfl, h20⟩
  · rintro _ w21 ⟨u14, rfl, h22⟩
    refine wp_seq ?_
    refine wp_seq ?_
    -- region 4
    refine wl_region ?_
    refine wl_val (iN .i64 (9 + 1)) (by kernel_rfl) (by kernel_rfl) ?_
    refine wl_val (.bool false) (by kernel_rfl) (run_lss (k := .i64) (a := 9 + 1) (b := 10) (by kernel_rfl) (by kernel_rfl) false (by decide)) ?_
    refine wl_nil ?_
    refine then_at (F := ⟨(rarr a :: pt q1 :: pt q4 :: pt q7 :: iN .i64 (9 + 1) :: un :: rarr (2 ^ 0 * Lq) :: .pointer (some ⟨q7, 36 * 0, none⟩) :: iN .i64 (9 + 1) :: .bool false :: u14 10 :: u14 11 :: u14 12 :: u14 13 :: u14 14 :: u14 15 :: u14 16 :: u14 17 :: u14 18 :: List.replicate 16 un).toArray, []⟩) (by kernel_rfl) ?_
    refine wp_cond_false (by kernel_rfl) ?_
    refine wp_exit ?_
    repeat first | refine then_exit ?_ | refine block_exit ?_ | refine block_exit_ne (by decide) ?_
    refine then_at (F := ⟨(rarr a :: pt q1 :: pt q4 :: pt q7 :: iN .i64 (9 + 1) :: un :: rarr (2 ^ 0 * Lq) :: .pointer (some ⟨q7, 36 * 0, none⟩) :: iN .i64 (9 + 1) :: .bool false :: u14 10 :: u14 11 :: u14 12 :: u14 13 :: u14 14 :: u14 15 :: u14 16 :: u14 17 :: u14 18 :: List.replicate 16 un).toArray, []⟩) (by kernel_rfl) ?_
    refine wp_seq ?_
    refine wp_seq ?_
    -- region 7
    refine wl_region ?_
    refine wl_val (iN .i64 9) (by kernel_rfl) (by kernel_rfl) ?_
    refine wl_nil ?_
    refine then_at (F := ⟨(rarr a :: pt q1 :: pt q4 :: pt q7 :: iN .i64 (9 + 1) :: iN .i64 9 :: rarr (2 ^ 0 * Lq) :: .pointer (some ⟨q7, 36 * 0, none⟩) :: iN .i64 (9 + 1) :: .bool false :: u14 10 :: u14 11 :: u14 12 :: u14 13 :: u14 14 :: u14 15 :: u14 16 :: u14 17 :: u14 18 :: List.replicate 16 un).toArray, []⟩) (by kernel_rfl) ?_
    refine wp_block ?_
    refine wp_count (fun i A w' => ∃ u23 : Nat → Value, A = ⟨(rarr a :: pt q1 :: pt q4 :: pt q7 :: iN .i64 (9 + 1) :: dnv (10 - i) :: rarr (2 ^ 0 * Lq) :: .pointer (some ⟨q7, 36 * 0, none⟩) :: iN .i64 (9 + 1) :: .bool false :: u14 10 :: u14 11 :: u14 12 :: u14 13 :: u14 14 :: u14 15 :: u14 16 :: u14 17 :: u14 18 :: u23 19 :: u23 20 :: u23 21 :: u23 22 :: u23 23 :: u23 24 :: u23 25 :: u23 26 :: u23 27 :: u23 28 :: u23 29 :: u23 30 :: u23 31 :: u23 32 :: u23 33 :: List.replicate 1 un).toArray, []⟩ ∧ HA w [(q7, 57, tbl (9 + 1)), (q4, 37, rl 0), (q1, 37, rl (a % (2 ^ (10 - i) * Lq)))] w') 10 ?_ ?_ ?_
    · exact ⟨fun ii => (([(19, undef), (20, undef), (21, undef), (22, undef), (23, undef), (24, undef), (25, undef), (26, undef), (27, undef), (28, undef), (29, undef), (30, undef), (31, undef), (32, undef), (33, undef)] : List (Nat × Value)).find? (·.1 == ii)).elim undef (·.2), by kernel_rfl, (by rw [Nat.sub_zero, Nat.mod_eq_of_lt ha]; exact h22)⟩
    · rintro i hi _ w24 ⟨u23, rfl, h25⟩
      obtain ⟨j, hj, ej⟩ : ∃ j, j < 10 ∧ 10 - i = j + 1 := ⟨9 - i, by omega, by omega⟩
      have ej2 : 10 - (i + 1) = j := by omega
      rw [ej] at h25
      rw [ej, ej2]
      obtain ⟨v, hv⟩ : ∃ v, v = a % (2 ^ (j + 1) * Lq) := ⟨_, rfl⟩
      rw [← hv] at h25
      have hv36 : v < 256 ^ 36 := by rw [hv]; exact Nat.lt_trans (Nat.mod_lt _ (Nat.mul_pos (Nat.pow_pos (by decide)) Lq_pos)) (pow_Lq_lt Lq (j + 1) rfl (by omega))
      have hred := red_step a v (2 ^ j * Lq) (Nat.mul_pos (Nat.pow_pos (by decide)) Lq_pos) (by rw [hv, Nat.pow_succ, Nat.mul_comm (2 ^ j) 2, Nat.mul_assoc])
      refine wp_seq ?_
      refine wp_seq ?_
      -- region 8
      refine wl_region ?_
      refine wl_val (iN .i64 j) (by kernel_rfl) (by kernel_rfl) ?_
      refine wl_val (.bool true) (by kernel_rfl) (run_geq0 (k := .i64) (a := ((j : Nat) : Int)) (b := 0) (by kernel_rfl) (by kernel_rfl) true (decide_eq_true (by omega))) ?_
      refine wl_nil ?_
      refine then_at (F := ⟨(rarr a :: pt q1 :: pt q4 :: pt q7 :: iN .i64 (9 + 1) :: iN .i64 j :: rarr (2 ^ 0 * Lq) :: .pointer (some ⟨q7, 36 * 0, none⟩) :: iN .i64 (9 + 1) :: .bool false :: u14 10 :: u14 11 :: u14 12 :: u14 13 :: u14 14 :: u14 15 :: u14 16 :: u14 17 :: u14 18 :: iN .i64 j :: .bool true :: u23 21 :: u23 22 :: u23 23 :: u23 24 :: u23 25 :: u23 26 :: u23 27 :: u23 28 :: u23 29 :: u23 30 :: u23 31 :: u23 32 :: u23 33 :: List.replicate 1 un).toArray, []⟩) (by kernel_rfl) ?_
      refine wp_cond_true (by kernel_rfl) ?_
      refine wp_skip ?_
      refine then_at (F := ⟨(rarr a :: pt q1 :: pt q4 :: pt q7 :: iN .i64 (9 + 1) :: iN .i64 j :: rarr (2 ^ 0 * Lq) :: .pointer (some ⟨q7, 36 * 0, none⟩) :: iN .i64 (9 + 1) :: .bool false :: u14 10 :: u14 11 :: u14 12 :: u14 13 :: u14 14 :: u14 15 :: u14 16 :: u14 17 :: u14 18 :: iN .i64 j :: .bool true :: u23 21 :: u23 22 :: u23 23 :: u23 24 :: u23 25 :: u23 26 :: u23 27 :: u23 28 :: u23 29 :: u23 30 :: u23 31 :: u23 32 :: u23 33 :: List.replicate 1 un).toArray, []⟩) (by kernel_rfl) ?_
      refine wp_seq ?_
      refine wp_block ?_
      refine wp_seq ?_
      by_cases hlt : v < 2 ^ j * Lq
      · -- region 10
        refine wp_region_sure ⟨(rarr a :: pt q1 :: pt q4 :: pt q7 :: iN .i64 (9 + 1) :: iN .i64 j :: rarr (2 ^ 0 * Lq) :: .pointer (some ⟨q7, 36 * 0, none⟩) :: iN .i64 (9 + 1) :: .bool false :: u14 10 :: u14 11 :: u14 12 :: u14 13 :: u14 14 :: u14 15 :: u14 16 :: u14 17 :: u14 18 :: iN .i64 j :: .bool true :: u23 21 :: u23 22 :: rarr v :: iN .i64 j :: .pointer (some ⟨q7, 36 * j, none⟩) :: rarr (2 ^ j * Lq) :: .bool true :: .bool false :: u23 29 :: u23 30 :: u23 31 :: u23 32 :: u23 33 :: List.replicate 1 un).toArray, []⟩ (HA w [(q7, 57, tbl (9 + 1)), (q4, 37, rl 0), (q1, 37, rl v)]) [rarr v, iN .i64 j, .pointer (some ⟨q7, 36 * j, none⟩), rarr (2 ^ j * Lq), .bool true, .bool false] (by kernel_rfl) (by kernel_rfl) (by kernel_rfl) (by kernel_rfl) (fun _ _ _ h => h) h25.drew ?_ ?_
        · refine AllSure.cons (OpSure.take (v := rarr v) (by kernel_rfl) (by kernel_rfl) (fun _ h => run_load_blk (by kernel_rfl) (h.get 2 rfl) Tryd.underlying37 rfl (info_rl _))) ?_
          refine AllSure.cons (OpSure.take (v := iN .i64 j) (by kernel_rfl) (by kernel_rfl) (fun _ _ => (by kernel_rfl))) ?_
          refine AllSure.cons (OpSure.take (v := .pointer (some ⟨q7, 36 * j, none⟩)) (by kernel_rfl) (by kernel_rfl) (fun _ _ => (run_addr57 (q := q7) (a := j) (by kernel_rfl) (by kernel_rfl) (by omega)))) ?_
          refine AllSure.cons (OpSure.take (v := rarr (2 ^ j * Lq)) (by kernel_rfl) (by kernel_rfl) (fun w' h' => run_row (q := q7) (a := j) (k := 9 + 1) (by kernel_rfl) (h'.get 0 rfl) (by omega) (by omega))) ?_
          refine AllSure.cons (sure_call (v := .bool true) (by kernel_rfl) (by kernel_rfl) enter39 HA.keep #[rarr v, rarr (2 ^ j * Lq)] (by kernel_rfl) (fun w' h' => rbelow_yes v (2 ^ j * Lq) hv36 (pow_Lq_lt Lq j rfl (by omega)) hlt w')) ?_
          refine AllSure.cons (OpSure.take (v := .bool false) (by kernel_rfl) (by kernel_rfl) (fun _ _ => (by kernel_rfl))) ?_
          exact AllSure.nil
        intro w26 h27
        refine then_at (F := ⟨(rarr a :: pt q1 :: pt q4 :: pt q7 :: iN .i64 (9 + 1) :: iN .i64 j :: rarr (2 ^ 0 * Lq) :: .pointer (some ⟨q7, 36 * 0, none⟩) :: iN .i64 (9 + 1) :: .bool false :: u14 10 :: u14 11 :: u14 12 :: u14 13 :: u14 14 :: u14 15 :: u14 16 :: u14 17 :: u14 18 :: iN .i64 j :: .bool true :: u23 21 :: u23 22 :: rarr v :: iN .i64 j :: .pointer (some ⟨q7, 36 * j, none⟩) :: rarr (2 ^ j * Lq) :: .bool true :: .bool false :: u23 29 :: u23 30 :: u23 31 :: u23 32 :: u23 33 :: List.replicate 1 un).toArray, []⟩) (by kernel_rfl) ?_
        refine wp_cond_false (by kernel_rfl) ?_
        refine wp_skip ?_
        refine block_normal ?_
        refine then_at (F := ⟨(rarr a :: pt q1 :: pt q4 :: pt q7 :: iN .i64 (9 + 1) :: iN .i64 j :: rarr (2 ^ 0 * Lq) :: .pointer (some ⟨q7, 36 * 0, none⟩) :: iN .i64 (9 + 1) :: .bool false :: u14 10 :: u14 11 :: u14 12 :: u14 13 :: u14 14 :: u14 15 :: u14 16 :: u14 17 :: u14 18 :: iN .i64 j :: .bool true :: u23 21 :: u23 22 :: rarr v :: iN .i64 j :: .pointer (some ⟨q7, 36 * j, none⟩) :: rarr (2 ^ j * Lq) :: .bool true :: .bool false :: u23 29 :: u23 30 :: u23 31 :: u23 32 :: u23 33 :: List.replicate 1 un).toArray, []⟩) (by kernel_rfl) ?_
        -- region 9
        refine wl_region ?_
        refine wl_val (iN .i64 j) (by kernel_rfl) (by kernel_rfl) ?_
        refine wl_val (dnv j) (by kernel_rfl) (run_dec (j := j) (by omega) (by kernel_rfl) (by kernel_rfl)) ?_
        refine wl_val (dnv j) (by kernel_rfl) (by kernel_rfl) ?_
        refine wl_nil ?_
        exact then_I ⟨fun ii => (([(19, iN .i64 j), (20, .bool true), (21, iN .i64 j), (22, dnv j), (23, rarr v), (24, iN .i64 j), (25, .pointer (some ⟨q7, 36 * j, none⟩)), (26, rarr (2 ^ j * Lq)), (27, .bool true), (28, .bool false), (29, u23 29), (30, u23 30), (31, u23 31), (32, u23 32), (33, u23 33)] : List (Nat × Value)).find? (·.1 == ii)).elim undef (·.2), by kernel_rfl, (by rw [← hred.1 hlt]; exact h27)⟩
      · -- region 10
        refine wp_region_sure ⟨(rarr a :: pt q1 :: pt q4 :: pt q7 :: iN .i64 (9 + 1) :: iN .i64 j :: rarr (2 ^ 0 * Lq) :: .pointer (some ⟨q7, 36 * 0, none⟩) :: iN .i64 (9 + 1) :: .bool false :: u14 10 :: u14 11 :: u14 12 :: u14 13 :: u14 14 :: u14 15 :: u14 16 :: u14 17 :: u14 18 :: iN .i64 j :: .bool true :: u23 21 :: u23 22 :: rarr v :: iN .i64 j :: .pointer (some ⟨q7, 36 * j, none⟩) :: rarr (2 ^ j * Lq) :: .bool false :: .bool true :: u23 29 :: u23 30 :: u23 31 :: u23 32 :: u23 33 :: List.replicate 1 un).toArray, []⟩ (HA w [(q7, 57, tbl (9 + 1)), (q4, 37, rl 0), (q1, 37, rl v)]) [rarr v, iN .i64 j, .pointer (some ⟨q7, 36 * j, none⟩), rarr (2 ^ j * Lq), .bool false, .bool true] (by kernel_rfl) (by kernel_rfl) (by kernel_rfl) (by kernel_rfl) (fun _ _ _ h => h) h25.drew ?_ ?_
        · refine AllSure.cons (OpSure.take (v := rarr v) (by kernel_rfl) (by kernel_rfl) (fun _ h => run_load_blk (by kernel_rfl) (h.get 2 rfl) Tryd.underlying37 rfl (info_rl _))) ?_
          refine AllSure.cons (OpSure.take (v := iN .i64 j) (by kernel_rfl) (by kernel_rfl) (fun _ _ => (by kernel_rfl))) ?_
          refine AllSure.cons (OpSure.take (v := .pointer (some ⟨q7, 36 * j, none⟩)) (by kernel_rfl) (by kernel_rfl) (fun _ _ => (run_addr57 (q := q7) (a := j) (by kernel_rfl) (by kernel_rfl) (by omega)))) ?_
          refine AllSure.cons (OpSure.take (v := rarr (2 ^ j * Lq)) (by kernel_rfl) (by kernel_rfl) (fun w' h' => run_row (q := q7) (a := j) (k := 9 + 1) (by kernel_rfl) (h'.get 0 rfl) (by omega) (by omega))) ?_
          refine AllSure.cons (sure_call (v := .bool false) (by kernel_rfl) (by kernel_rfl) enter39 HA.keep #[rarr v, rarr (2 ^ j * Lq)] (by kernel_rfl) (fun w' h' => rbelow_no v (2 ^ j * Lq) hv36 (pow_Lq_lt Lq j rfl (by omega)) hlt w')) ?_
          refine AllSure.cons (OpSure.take (v := .bool true) (by kernel_rfl) (by kernel_rfl) (fun _ _ => (by kernel_rfl))) ?_
          exact AllSure.nil
        intro w28 h29
        refine then_at (F := ⟨(rarr a :: pt q1 :: pt q4 :: pt q7 :: iN .i64 (9 + 1) :: iN .i64 j :: rarr (2 ^ 0 * Lq) :: .pointer (some ⟨q7, 36 * 0, none⟩) :: iN .i64 (9 + 1) :: .bool false :: u14 10 :: u14 11 :: u14 12 :: u14 13 :: u14 14 :: u14 15 :: u14 16 :: u14 17 :: u14 18 :: iN .i64 j :: .bool true :: u23 21 :: u23 22 :: rarr v :: iN .i64 j :: .pointer (some ⟨q7, 36 * j, none⟩) :: rarr (2 ^ j * Lq) :: .bool false :: .bool true :: u23 29 :: u23 30 :: u23 31 :: u23 32 :: u23 33 :: List.replicate 1 un).toArray, []⟩) (by kernel_rfl) ?_
        refine wp_cond_true (by kernel_rfl) ?_
        -- region 11
        refine wp_region_ghost (fun _ : Nat → Nat => (⟨(rarr a :: pt q1 :: pt q4 :: pt q7 :: iN .i64 (9 + 1) :: iN .i64 j :: rarr (2 ^ 0 * Lq) :: .pointer (some ⟨q7, 36 * 0, none⟩) :: iN .i64 (9 + 1) :: .bool false :: u14 10 :: u14 11 :: u14 12 :: u14 13 :: u14 14 :: u14 15 :: u14 16 :: u14 17 :: u14 18 :: iN .i64 j :: .bool true :: u23 21 :: u23 22 :: rarr v :: iN .i64 j :: .pointer (some ⟨q7, 36 * j, none⟩) :: rarr (2 ^ j * Lq) :: .bool false :: .bool true :: rarr v :: iN .i64 j :: .pointer (some ⟨q7, 36 * j, none⟩) :: rarr (2 ^ j * Lq) :: rarr (v - 2 ^ j * Lq) :: List.replicate 1 un).toArray, []⟩ : Act)) (GF w [(q7, 57, tbl (9 + 1)), (q4, 37, rl 0), (q1, 37, rl v)] 5 0 2 q1 37 (rl (v - 2 ^ j * Lq))) [rarr v, iN .i64 j, .pointer (some ⟨q7, 36 * j, none⟩), rarr (2 ^ j * Lq), rarr (v - 2 ^ j * Lq), undef] (by kernel_rfl) (by kernel_rfl) (by kernel_rfl) (by kernel_rfl) (fun _ _ _ _ h => h) (fun d hd => GF.start h29.drew (hd 5 (by decide))) ?_ ?_
        · refine AllGhost.cons (gf_load 2 rfl (by decide) (fun _ => by kernel_rfl) (fun _ => by kernel_rfl) (fun _ => by kernel_rfl) Tryd.underlying37 rfl (info_rl _)) ?_
          refine AllGhost.cons (gf_plain (v := iN .i64 j) (by decide) (fun _ => by kernel_rfl) (fun _ => by kernel_rfl) (fun _ _ => (by kernel_rfl))) ?_
          refine AllGhost.cons (gf_plain (v := .pointer (some ⟨q7, 36 * j, none⟩)) (by decide) (fun _ => by kernel_rfl) (fun _ => by kernel_rfl) (fun _ _ => (run_addr57 (q := q7) (a := j) (by kernel_rfl) (by kernel_rfl) (by omega)))) ?_
          refine AllGhost.cons (gf_read (v := rarr (2 ^ j * Lq)) 0 (by decide) rfl (by decide) (fun _ => by kernel_rfl) (fun _ => by kernel_rfl) (fun _ _ hb => run_row (q := q7) (a := j) (k := 9 + 1) (by kernel_rfl) hb (by omega) (by omega))) ?_
          refine AllGhost.cons (gf_call (v := rarr (v - 2 ^ j * Lq)) (by decide) (fun _ => by kernel_rfl) (fun _ => by kernel_rfl) enter40 #[rarr v, rarr (2 ^ j * Lq)] (fun _ => by kernel_rfl) (fun w' => rless_any v (2 ^ j * Lq) (Nat.le_of_not_lt hlt) w')) ?_
          refine AllGhost.cons (gf_fill rfl (rl_sz _ _) (fun _ => by kernel_rfl) (fun _ => by kernel_rfl) (fun _ => by kernel_rfl) (fun _ => by kernel_rfl) (info_rl _) (one_rl _) (by decide) (by kernel_rfl)) ?_
          exact AllGhost.nil
        intro _ w30 g31
        have h32 : HA w [(q7, 57, tbl (9 + 1)), (q4, 37, rl 0), (q1, 37, rl (v - 2 ^ j * Lq))] w30 := g31.held
        clear g31
        refine block_normal ?_
        refine then_at (F := ⟨(rarr a :: pt q1 :: pt q4 :: pt q7 :: iN .i64 (9 + 1) :: iN .i64 j :: rarr (2 ^ 0 * Lq) :: .pointer (some ⟨q7, 36 * 0, none⟩) :: iN .i64 (9 + 1) :: .bool false :: u14 10 :: u14 11 :: u14 12 :: u14 13 :: u14 14 :: u14 15 :: u14 16 :: u14 17 :: u14 18 :: iN .i64 j :: .bool true :: u23 21 :: u23 22 :: rarr v :: iN .i64 j :: .pointer (some ⟨q7, 36 * j, none⟩) :: rarr (2 ^ j * Lq) :: .bool false :: .bool true :: rarr v :: iN .i64 j :: .pointer (some ⟨q7, 36 * j, none⟩) :: rarr (2 ^ j * Lq) :: rarr (v - 2 ^ j * Lq) :: List.replicate 1 un).toArray, []⟩) (by kernel_rfl) ?_
        -- region 9
        refine wl_region ?_
        refine wl_val (iN .i64 j) (by kernel_rfl) (by kernel_rfl) ?_
        refine wl_val (dnv j) (by kernel_rfl) (run_dec (j := j) (by omega) (by kernel_rfl) (by kernel_rfl)) ?_
        refine wl_val (dnv j) (by kernel_rfl) (by kernel_rfl) ?_
        refine wl_nil ?_
        exact then_I ⟨fun ii => (([(19, iN .i64 j), (20, .bool true), (21, iN .i64 j), (22, dnv j), (23, rarr v), (24, iN .i64 j), (25, .pointer (some ⟨q7, 36 * j, none⟩)), (26, rarr (2 ^ j * Lq)), (27, .bool false), (28, .bool true), (29, rarr v), (30, iN .i64 j), (31, .pointer (some ⟨q7, 36 * j, none⟩)), (32, rarr (2 ^ j * Lq)), (33, rarr (v - 2 ^ j * Lq))] : List (Nat × Value)).find? (·.1 == ii)).elim undef (·.2), by kernel_rfl, (by rw [← hred.2 hlt]; exact h32)⟩
    · rintro _ w33 ⟨u23, rfl, h34⟩
      refine wp_seq ?_
      refine wp_seq ?_
      -- region 8
      refine wl_region ?_
      refine wl_val (dnv 0) (by kernel_rfl) (by kernel_rfl) ?_
      refine wl_val (.bool false) (by kernel_rfl) (run_geq0 (k := .i64) (a := -1) (b := 0) (by kernel_rfl) (by kernel_rfl) false (by decide)) ?_
      refine wl_nil ?_
      refine then_at (F := ⟨(rarr a :: pt q1 :: pt q4 :: pt q7 :: iN .i64 (9 + 1) :: dnv 0 :: rarr (2 ^ 0 * Lq) :: .pointer (some ⟨q7, 36 * 0, none⟩) :: iN .i64 (9 + 1) :: .bool false :: u14 10 :: u14 11 :: u14 12 :: u14 13 :: u14 14 :: u14 15 :: u14 16 :: u14 17 :: u14 18 :: dnv 0 :: .bool false :: u23 21 :: u23 22 :: u23 23 :: u23 24 :: u23 25 :: u23 26 :: u23 27 :: u23 28 :: u23 29 :: u23 30 :: u23 31 :: u23 32 :: u23 33 :: List.replicate 1 un).toArray, []⟩) (by kernel_rfl) ?_
      refine wp_cond_false (by kernel_rfl) ?_
      refine wp_exit ?_
      repeat first | refine then_exit ?_ | refine block_exit ?_ | refine block_exit_ne (by decide) ?_
      have h35 : HA w [(q7, 57, tbl (9 + 1)), (q4, 37, rl 0), (q1, 37, rl (a % Lq))] w33 := by have e := h34; rw [Nat.sub_self, Nat.pow_zero, Nat.one_mul] at e; exact e
      refine then_at (F := ⟨(rarr a :: pt q1 :: pt q4 :: pt q7 :: iN .i64 (9 + 1) :: dnv 0 :: rarr (2 ^ 0 * Lq) :: .pointer (some ⟨q7, 36 * 0, none⟩) :: iN .i64 (9 + 1) :: .bool false :: u14 10 :: u14 11 :: u14 12 :: u14 13 :: u14 14 :: u14 15 :: u14 16 :: u14 17 :: u14 18 :: dnv 0 :: .bool false :: u23 21 :: u23 22 :: u23 23 :: u23 24 :: u23 25 :: u23 26 :: u23 27 :: u23 28 :: u23 29 :: u23 30 :: u23 31 :: u23 32 :: u23 33 :: List.replicate 1 un).toArray, []⟩) (by kernel_rfl) ?_
      refine wp_seq ?_
      -- region 12
      refine wl_region ?_
      refine wl_load h35 2 rfl (by kernel_rfl) (by kernel_rfl) Tryd.underlying37 rfl (info_rl _) ?_
      refine wl_fill (c' := rl (a % Lq)) h35 1 rfl (by kernel_rfl) (by kernel_rfl) (by kernel_rfl) (rl_sz _ _) (info_rl _) (one_rl _) ?_
      intro w36 (h37 : HA w [(q7, 57, tbl (9 + 1)), (q4, 37, rl (a % Lq)), (q1, 37, rl (a % Lq))] w36)
      refine wl_nil ?_
      refine then_at (F := ⟨(rarr a :: pt q1 :: pt q4 :: pt q7 :: iN .i64 (9 + 1) :: dnv 0 :: rarr (2 ^ 0 * Lq) :: .pointer (some ⟨q7, 36 * 0, none⟩) :: iN .i64 (9 + 1) :: .bool false :: u14 10 :: u14 11 :: u14 12 :: u14 13 :: u14 14 :: u14 15 :: u14 16 :: u14 17 :: u14 18 :: dnv 0 :: .bool false :: u23 21 :: u23 22 :: u23 23 :: u23 24 :: u23 25 :: u23 26 :: u23 27 :: u23 28 :: u23 29 :: u23 30 :: u23 31 :: u23 32 :: u23 33 :: rarr (a % Lq) :: List.replicate 0 un).toArray, []⟩) (by kernel_rfl) ?_
      refine wp_ret ?_
      repeat first | refine then_ret ?_ | refine block_ret ?_
      exact bodyPost_ret (v := rarr (a % Lq)) (res_cell (p := 2) (by kernel_rfl) (by kernel_rfl) (h37.get 1 rfl) Tryd.underlying37 rfl (info_rl _)) rfl ⟨rfl, h37.old⟩
end Go.Proofs.YtdblnbcclfenkaaDoor
