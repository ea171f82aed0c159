/-
  The reference's reduced.
-/
import Derived.Test.YtbmfmamhidccbaaDoorRefE0
namespace Go.Proofs.YtbmfmamhidccbaaDoor
open Go.RowKit Num

theorem dgD_lt (l : List Nat) (k : Nat) (hk : k < 16) : dg (digs 65536 16 (num 65536 l)) k < 65536 := by
  rw [dg_get _ k (by rw [digs_length]; exact hk)]
  exact digs_lt 65536 (by decide) 16 _ _ (List.getElem_mem _)
theorem copy_put (l : List Nat) (k : Nat) (hk : k < 16) : (rl (num 65536 l % 65536 ^ k)).setIfInBounds k (.int .u32 ((dg (digs 65536 16 (num 65536 l)) k : Nat) : Int)) = rl (num 65536 l % 65536 ^ (k + 1)) := by
  have h := dgD_lt l k hk
  rw [rl_put _ k _ (Nat.mod_lt _ (Nat.pow_pos (by decide))) hk h, dg_get _ k (by rw [digs_length]; exact hk), digs_get]
  congr 1
  rw [Nat.pow_succ, Nat.mod_mul, Nat.mul_comm (65536 ^ k)]

set_option linter.unusedVariables false in
set_option maxRecDepth 100000 in
set_option maxHeartbeats 2000000 in
theorem reduced_any (l0 : List Nat) (hl0 : l0.length = 16) (hb0 : ∀ x ∈ l0, x < 4398046511104) (w : World) : Calls Tryd.prog 39 #[.agg (ul l0)] w fun e w' => e = .returned (rarr (num 65536 l0 % P)) ∧ Below w.heap.size w w' := by
  have H0 := HA.start w
  go_enter Tryd.func39, Tryd.ntmps39
  refine wp_seq ?_
  -- region 0
  refine wl_region ?_
  refine wl_make H0 61 (by kernel_rfl) (run_box61 (c := ul l0) (by kernel_rfl)) ?_
  intro q1 w2 h3
  refine wl_make h3 30 (by kernel_rfl) run_alloc30 ?_
  intro q4 w5 h6
  refine wl_nil ?_
  refine then_at (F := ⟨(.agg (ul l0) :: pt q1 :: pt q4 :: List.replicate 51 un).toArray, []⟩) (by kernel_rfl) ?_
  refine wp_seq ?_
  refine wp_block ?_
  refine wp_while (fun m A w' => ∃ (l : List Nat) (u7 : Nat → Value), m = num 65536 l ∧ A = ⟨(.agg (ul l0) :: pt q1 :: pt q4 :: u7 3 :: u7 4 :: un :: un :: u7 7 :: u7 8 :: u7 9 :: u7 10 :: u7 11 :: u7 12 :: u7 13 :: u7 14 :: u7 15 :: u7 16 :: u7 17 :: u7 18 :: u7 19 :: u7 20 :: u7 21 :: u7 22 :: u7 23 :: u7 24 :: u7 25 :: u7 26 :: u7 27 :: u7 28 :: u7 29 :: u7 30 :: u7 31 :: u7 32 :: u7 33 :: u7 34 :: u7 35 :: List.replicate 18 un).toArray, []⟩ ∧ HA w [(q4, 30, rl 0), (q1, 61, ul l)] w' ∧ l.length = 16 ∧ (∀ x ∈ l, x < 4398046511104) ∧ num 65536 l % P = num 65536 l0 % P) (num 65536 l0) ?_ ?_
  · exact ⟨l0, fun i => (([(3, undef), (4, undef), (7, undef), (8, undef), (9, undef), (10, undef), (11, undef), (12, undef), (13, undef), (14, undef), (15, undef), (16, undef), (17, undef), (18, undef), (19, undef), (20, undef), (21, undef), (22, undef), (23, undef), (24, undef), (25, undef), (26, undef), (27, undef), (28, undef), (29, undef), (30, undef), (31, undef), (32, undef), (33, undef), (34, undef), (35, undef)] : List (Nat × Value)).find? (·.1 == i)).elim undef (·.2), rfl, by kernel_rfl, h6, hl0, hb0, rfl⟩
  rintro _ _ w8 ⟨l, u7, rfl, rfl, h9, hl, hb, hN⟩
  refine wp_block ?_
  refine wp_seq ?_
  -- region 1
  refine wl_region ?_
  refine wl_val (iN .u64 0) (by kernel_rfl) (by kernel_rfl) ?_
  refine wl_nil ?_
  refine then_at (F := ⟨(.agg (ul l0) :: pt q1 :: pt q4 :: iN .u64 0 :: u7 4 :: un :: un :: u7 7 :: u7 8 :: u7 9 :: u7 10 :: u7 11 :: u7 12 :: u7 13 :: u7 14 :: u7 15 :: u7 16 :: u7 17 :: u7 18 :: u7 19 :: u7 20 :: u7 21 :: u7 22 :: u7 23 :: u7 24 :: u7 25 :: u7 26 :: u7 27 :: u7 28 :: u7 29 :: u7 30 :: u7 31 :: u7 32 :: u7 33 :: u7 34 :: u7 35 :: List.replicate 18 un).toArray, []⟩) (by kernel_rfl) ?_
  refine wp_seq ?_
  refine wp_seq ?_
  -- region 2
  refine wl_region ?_
  refine wl_val (iN .i64 0) (by kernel_rfl) (by kernel_rfl) ?_
  refine wl_nil ?_
  refine then_at (F := ⟨(.agg (ul l0) :: pt q1 :: pt q4 :: iN .u64 0 :: iN .i64 0 :: un :: un :: u7 7 :: u7 8 :: u7 9 :: u7 10 :: u7 11 :: u7 12 :: u7 13 :: u7 14 :: u7 15 :: u7 16 :: u7 17 :: u7 18 :: u7 19 :: u7 20 :: u7 21 :: u7 22 :: u7 23 :: u7 24 :: u7 25 :: u7 26 :: u7 27 :: u7 28 :: u7 29 :: u7 30 :: u7 31 :: u7 32 :: u7 33 :: u7 34 :: u7 35 :: List.replicate 18 un).toArray, []⟩) (by kernel_rfl) ?_
  refine wp_block ?_
  refine wp_count (fun k A w' => ∃ u10 : Nat → Value, A = ⟨(.agg (ul l0) :: pt q1 :: pt q4 :: iN .u64 (crr l k) :: iN .i64 k :: un :: un :: u10 7 :: u10 8 :: u10 9 :: u10 10 :: u10 11 :: u10 12 :: u10 13 :: u10 14 :: u10 15 :: u10 16 :: u10 17 :: u10 18 :: u10 19 :: u10 20 :: u10 21 :: u10 22 :: u10 23 :: u10 24 :: u10 25 :: u10 26 :: u10 27 :: u7 28 :: u7 29 :: u7 30 :: u7 31 :: u7 32 :: u7 33 :: u7 34 :: u7 35 :: List.replicate 18 un).toArray, []⟩ ∧ HA w [(q4, 30, rl 0), (q1, 61, ul (pc l k))] w') 16 ?_ ?_ ?_
  · exact ⟨fun i => (([(7, u7 7), (8, u7 8), (9, u7 9), (10, u7 10), (11, u7 11), (12, u7 12), (13, u7 13), (14, u7 14), (15, u7 15), (16, u7 16), (17, u7 17), (18, u7 18), (19, u7 19), (20, u7 20), (21, u7 21), (22, u7 22), (23, u7 23), (24, u7 24), (25, u7 25), (26, u7 26), (27, u7 27)] : List (Nat × Value)).find? (·.1 == i)).elim undef (·.2), by kernel_rfl, h9⟩
  · rintro k hk _ w11 ⟨u10, rfl, h12⟩
    have hps := pc_step l hl k hk
    have hcl := crr_le l hb k
    have hdl := dg_lt l hl hb k hk
    refine wp_seq ?_
    refine wp_seq ?_
    -- region 3
    refine wl_region ?_
    refine wl_val (iN .i64 k) (by kernel_rfl) (by kernel_rfl) ?_
    refine wl_val (.bool true) (by kernel_rfl) (run_lss (k := .i64) (a := k) (b := 16) (by kernel_rfl) (by kernel_rfl) true (decide_eq_true hk)) ?_
    refine wl_nil ?_
    refine then_at (F := ⟨(.agg (ul l0) :: pt q1 :: pt q4 :: iN .u64 (crr l k) :: iN .i64 k :: un :: un :: iN .i64 k :: .bool true :: u10 9 :: u10 10 :: u10 11 :: u10 12 :: u10 13 :: u10 14 :: u10 15 :: u10 16 :: u10 17 :: u10 18 :: u10 19 :: u10 20 :: u10 21 :: u10 22 :: u10 23 :: u10 24 :: u10 25 :: u10 26 :: u10 27 :: u7 28 :: u7 29 :: u7 30 :: u7 31 :: u7 32 :: u7 33 :: u7 34 :: u7 35 :: List.replicate 18 un).toArray, []⟩) (by kernel_rfl) ?_
    refine wp_cond_true (by kernel_rfl) ?_
    refine wp_skip ?_
    refine then_at (F := ⟨(.agg (ul l0) :: pt q1 :: pt q4 :: iN .u64 (crr l k) :: iN .i64 k :: un :: un :: iN .i64 k :: .bool true :: u10 9 :: u10 10 :: u10 11 :: u10 12 :: u10 13 :: u10 14 :: u10 15 :: u10 16 :: u10 17 :: u10 18 :: u10 19 :: u10 20 :: u10 21 :: u10 22 :: u10 23 :: u10 24 :: u10 25 :: u10 26 :: u10 27 :: u7 28 :: u7 29 :: u7 30 :: u7 31 :: u7 32 :: u7 33 :: u7 34 :: u7 35 :: List.replicate 18 un).toArray, []⟩) (by kernel_rfl) ?_
    refine wp_seq ?_
    refine wp_block ?_
    refine wp_seq ?_
    -- region 5
    refine wl_region ?_
    refine wl_val (iN .i64 k) (by kernel_rfl) (by kernel_rfl) ?_
    refine wl_val (iN .i64 k) (by kernel_rfl) (by kernel_rfl) ?_
    refine wl_val (.pointer (some ⟨q1, k, none⟩)) (by kernel_rfl) (run_addr_arr (q := q1) (a := k) Tryd.underlying61 (fun w => Tryd.sizeOf23 w) (by kernel_rfl) (by kernel_rfl) (by omega)) ?_
    refine wl_val (iN .u64 (dg l k)) (by kernel_rfl) (run_load1 (fun w => Tryd.isAgg23 w) (by kernel_rfl) (((h12.get 1 rfl).cell k).trans (pc_get l hl k hk))) ?_
    refine wl_val (iN .u64 (crr l k)) (by kernel_rfl) (by kernel_rfl) ?_
    refine wl_val (iN .u64 ((dg l k) + (crr l k))) (by kernel_rfl) (run_add (k := .u64) (a := dg l k) (b := crr l k) (by kernel_rfl) (by kernel_rfl) (by simp only [top]; omega)) ?_
    refine wl_val (.pointer (some ⟨q1, k, none⟩)) (by kernel_rfl) (run_addr_arr (q := q1) (a := k) Tryd.underlying61 (fun w => Tryd.sizeOf23 w) (by kernel_rfl) (by kernel_rfl) (by omega)) ?_
    refine wl_put (k := .u64) (z := (((dg l k) + (crr l k) : Nat) : Int)) h12 1 rfl k (by rw [ul_size, pc_len l hl k (by omega)]; exact hk) (by kernel_rfl) (fun w => Tryd.sizeOf23 w) (by kernel_rfl) (by kernel_rfl) ?_
    intro w13 h14
    have h15 : HA w [(q4, 30, rl 0), (q1, 61, ul ((pc l k).set k (dg l k + crr l k)))] w13 := (by rw [← ul_put]; exact h14)
    clear h14
    refine wl_nil ?_
    refine then_at (F := ⟨(.agg (ul l0) :: pt q1 :: pt q4 :: iN .u64 (crr l k) :: iN .i64 k :: un :: un :: iN .i64 k :: .bool true :: u10 9 :: u10 10 :: iN .i64 k :: iN .i64 k :: .pointer (some ⟨q1, k, none⟩) :: iN .u64 (dg l k) :: iN .u64 (crr l k) :: iN .u64 ((dg l k) + (crr l k)) :: .pointer (some ⟨q1, k, none⟩) :: u10 18 :: u10 19 :: u10 20 :: u10 21 :: u10 22 :: u10 23 :: u10 24 :: u10 25 :: u10 26 :: u10 27 :: u7 28 :: u7 29 :: u7 30 :: u7 31 :: u7 32 :: u7 33 :: u7 34 :: u7 35 :: List.replicate 18 un).toArray, []⟩) (by kernel_rfl) ?_
    refine wp_seq ?_
    -- region 6
    refine wl_region ?_
    refine wl_val (iN .i64 k) (by kernel_rfl) (by kernel_rfl) ?_
    refine wl_val (.pointer (some ⟨q1, k, none⟩)) (by kernel_rfl) (run_addr_arr (q := q1) (a := k) Tryd.underlying61 (fun w => Tryd.sizeOf23 w) (by kernel_rfl) (by kernel_rfl) (by omega)) ?_
    refine wl_val (iN .u64 (dg l k + crr l k)) (by kernel_rfl) (run_load1 (fun w => Tryd.isAgg23 w) (by kernel_rfl) (((h15.get 1 rfl).cell k).trans (set_get (pc l k) k _ (by rw [pc_len l hl k (by omega)]; exact hk)))) ?_
    refine wl_val (iN .u64 ((dg l k + crr l k) / 2 ^ 16)) (by kernel_rfl) (run_shr (k2 := .u64) (k := .u64) (a := dg l k + crr l k) (b := 16) (by kernel_rfl) (by kernel_rfl) (by decide)) ?_
    refine wl_val (iN .u64 ((dg l k + crr l k) / 2 ^ 16)) (by kernel_rfl) (by kernel_rfl) ?_
    refine wl_nil ?_
    refine then_at (F := ⟨(.agg (ul l0) :: pt q1 :: pt q4 :: iN .u64 ((dg l k + crr l k) / 2 ^ 16) :: iN .i64 k :: un :: un :: iN .i64 k :: .bool true :: u10 9 :: u10 10 :: iN .i64 k :: iN .i64 k :: .pointer (some ⟨q1, k, none⟩) :: iN .u64 (dg l k) :: iN .u64 (crr l k) :: iN .u64 ((dg l k) + (crr l k)) :: .pointer (some ⟨q1, k, none⟩) :: iN .i64 k :: .pointer (some ⟨q1, k, none⟩) :: iN .u64 (dg l k + crr l k) :: iN .u64 ((dg l k + crr l k) / 2 ^ 16) :: u10 22 :: u10 23 :: u10 24 :: u10 25 :: u10 26 :: u10 27 :: u7 28 :: u7 29 :: u7 30 :: u7 31 :: u7 32 :: u7 33 :: u7 34 :: u7 35 :: List.replicate 18 un).toArray, []⟩) (by kernel_rfl) ?_
    -- region 7
    refine wl_region ?_
    refine wl_val (iN .i64 k) (by kernel_rfl) (by kernel_rfl) ?_
    refine wl_val (iN .i64 k) (by kernel_rfl) (by kernel_rfl) ?_
    refine wl_val (.pointer (some ⟨q1, k, none⟩)) (by kernel_rfl) (run_addr_arr (q := q1) (a := k) Tryd.underlying61 (fun w => Tryd.sizeOf23 w) (by kernel_rfl) (by kernel_rfl) (by omega)) ?_
    refine wl_val (iN .u64 (dg l k + crr l k)) (by kernel_rfl) (run_load1 (fun w => Tryd.isAgg23 w) (by kernel_rfl) (((h15.get 1 rfl).cell k).trans (set_get (pc l k) k _ (by rw [pc_len l hl k (by omega)]; exact hk)))) ?_
    refine wl_val (iN .u64 ((dg l k + crr l k) &&& 65535)) (by kernel_rfl) (run_and64 (a := dg l k + crr l k) (b := 65535) (by kernel_rfl) (by kernel_rfl) (by omega) (by decide)) ?_
    refine wl_val (.pointer (some ⟨q1, k, none⟩)) (by kernel_rfl) (run_addr_arr (q := q1) (a := k) Tryd.underlying61 (fun w => Tryd.sizeOf23 w) (by kernel_rfl) (by kernel_rfl) (by omega)) ?_
    refine wl_put (k := .u64) (z := (((dg l k + crr l k) &&& 65535 : Nat) : Int)) h15 1 rfl k (by rw [ul_size, List.length_set, pc_len l hl k (by omega)]; exact hk) (by kernel_rfl) (fun w => Tryd.sizeOf23 w) (by kernel_rfl) (by kernel_rfl) ?_
    intro w16 h17
    have h18 : HA w [(q4, 30, rl 0), (q1, 61, ul (pc l (k + 1)))] w16 := (by rw [← hps.1, ← ul_put]; exact h17)
    clear h17
    refine wl_nil ?_
    refine block_normal ?_
    refine then_at (F := ⟨(.agg (ul l0) :: pt q1 :: pt q4 :: iN .u64 ((dg l k + crr l k) / 2 ^ 16) :: iN .i64 k :: un :: un :: iN .i64 k :: .bool true :: u10 9 :: u10 10 :: iN .i64 k :: iN .i64 k :: .pointer (some ⟨q1, k, none⟩) :: iN .u64 (dg l k) :: iN .u64 (crr l k) :: iN .u64 ((dg l k) + (crr l k)) :: .pointer (some ⟨q1, k, none⟩) :: iN .i64 k :: .pointer (some ⟨q1, k, none⟩) :: iN .u64 (dg l k + crr l k) :: iN .u64 ((dg l k + crr l k) / 2 ^ 16) :: iN .i64 k :: iN .i64 k :: .pointer (some ⟨q1, k, none⟩) :: iN .u64 (dg l k + crr l k) :: iN .u64 ((dg l k + crr l k) &&& 65535) :: .pointer (some ⟨q1, k, none⟩) :: u7 28 :: u7 29 :: u7 30 :: u7 31 :: u7 32 :: u7 33 :: u7 34 :: u7 35 :: List.replicate 18 un).toArray, []⟩) (by kernel_rfl) ?_
    -- region 4
    refine wl_region ?_
    refine wl_val (iN .i64 k) (by kernel_rfl) (by kernel_rfl) ?_
    refine wl_val (iN .i64 (k + 1)) (by kernel_rfl) (run_add (k := .i64) (a := k) (b := 1) (by kernel_rfl) (by kernel_rfl) (by simp only [top]; omega)) ?_
    refine wl_val (iN .i64 (k + 1)) (by kernel_rfl) (by kernel_rfl) ?_
    refine wl_nil ?_
    rw [← hps.2]
    exact then_I ⟨fun i => (([(7, iN .i64 k), (8, .bool true), (9, iN .i64 k), (10, iN .i64 (k + 1)), (11, iN .i64 k), (12, iN .i64 k), (13, .pointer (some ⟨q1, k, none⟩)), (14, iN .u64 (dg l k)), (15, iN .u64 (crr l k)), (16, iN .u64 ((dg l k) + (crr l k))), (17, .pointer (some ⟨q1, k, none⟩)), (18, iN .i64 k), (19, .pointer (some ⟨q1, k, none⟩)), (20, iN .u64 (dg l k + crr l k)), (21, iN .u64 ((dg l k + crr l k) / 2 ^ 16)), (22, iN .i64 k), (23, iN .i64 k), (24, .pointer (some ⟨q1, k, none⟩)), (25, iN .u64 (dg l k + crr l k)), (26, iN .u64 ((dg l k + crr l k) &&& 65535)), (27, .pointer (some ⟨q1, k, none⟩))] : List (Nat × Value)).find? (·.1 == i)).elim undef (·.2), by kernel_rfl, h18⟩
  · rintro _ w19 ⟨u10, rfl, h20⟩
    refine wp_seq ?_
    refine wp_seq ?_
    -- region 3
    refine wl_region ?_
    refine wl_val (iN .i64 16) (by kernel_rfl) (by kernel_rfl) ?_
    refine wl_val (.bool false) (by kernel_rfl) (run_lss (k := .i64) (a := 16) (b := 16) (by kernel_rfl) (by kernel_rfl) false (by decide)) ?_
    refine wl_nil ?_
    refine then_at (F := ⟨(.agg (ul l0) :: pt q1 :: pt q4 :: iN .u64 (crr l 16) :: iN .i64 16 :: un :: un :: iN .i64 16 :: .bool false :: u10 9 :: u10 10 :: u10 11 :: u10 12 :: u10 13 :: u10 14 :: u10 15 :: u10 16 :: u10 17 :: u10 18 :: u10 19 :: u10 20 :: u10 21 :: u10 22 :: u10 23 :: u10 24 :: u10 25 :: u10 26 :: u10 27 :: u7 28 :: u7 29 :: u7 30 :: u7 31 :: u7 32 :: u7 33 :: u7 34 :: u7 35 :: List.replicate 18 un).toArray, []⟩) (by kernel_rfl) ?_
    refine wp_cond_false (by kernel_rfl) ?_
    refine wp_exit ?_
    repeat first | refine then_exit ?_ | refine block_exit ?_ | refine block_exit_ne (by decide) ?_
    have h21 : HA w [(q4, 30, rl 0), (q1, 61, ul (digs 65536 16 (num 65536 l)))] w19 := by rw [← pc_end l hl]; exact h20
    have hc16 := crr_le l hb 16
    have hd0 := dgD_lt l 0 (by decide)
    refine then_at (F := ⟨(.agg (ul l0) :: pt q1 :: pt q4 :: iN .u64 (crr l 16) :: iN .i64 16 :: un :: un :: iN .i64 16 :: .bool false :: u10 9 :: u10 10 :: u10 11 :: u10 12 :: u10 13 :: u10 14 :: u10 15 :: u10 16 :: u10 17 :: u10 18 :: u10 19 :: u10 20 :: u10 21 :: u10 22 :: u10 23 :: u10 24 :: u10 25 :: u10 26 :: u10 27 :: u7 28 :: u7 29 :: u7 30 :: u7 31 :: u7 32 :: u7 33 :: u7 34 :: u7 35 :: List.replicate 18 un).toArray, []⟩) (by kernel_rfl) ?_
    refine wp_seq ?_
    refine wp_seq ?_
    by_cases hc : crr l 16 = 0
    · -- region 8
      refine wl_region ?_
      refine wl_val (iN .u64 (crr l 16)) (by kernel_rfl) (by kernel_rfl) ?_
      refine wl_val (.bool true) (by kernel_rfl) (run_eqi (k := .u64) (a := crr l 16) (b := 0) (by kernel_rfl) (by kernel_rfl) true (decide_eq_true hc)) ?_
      refine wl_nil ?_
      refine then_at (F := ⟨(.agg (ul l0) :: pt q1 :: pt q4 :: iN .u64 (crr l 16) :: iN .i64 16 :: un :: un :: iN .i64 16 :: .bool false :: u10 9 :: u10 10 :: u10 11 :: u10 12 :: u10 13 :: u10 14 :: u10 15 :: u10 16 :: u10 17 :: u10 18 :: u10 19 :: u10 20 :: u10 21 :: u10 22 :: u10 23 :: u10 24 :: u10 25 :: u10 26 :: u10 27 :: iN .u64 (crr l 16) :: .bool true :: u7 30 :: u7 31 :: u7 32 :: u7 33 :: u7 34 :: u7 35 :: List.replicate 18 un).toArray, []⟩) (by kernel_rfl) ?_
      refine wp_cond_true (by kernel_rfl) ?_
      refine wp_exit ?_
      repeat first | refine then_exit ?_ | refine block_exit ?_ | refine block_exit_ne (by decide) ?_
      refine then_at (F := ⟨(.agg (ul l0) :: pt q1 :: pt q4 :: iN .u64 (crr l 16) :: iN .i64 16 :: un :: un :: iN .i64 16 :: .bool false :: u10 9 :: u10 10 :: u10 11 :: u10 12 :: u10 13 :: u10 14 :: u10 15 :: u10 16 :: u10 17 :: u10 18 :: u10 19 :: u10 20 :: u10 21 :: u10 22 :: u10 23 :: u10 24 :: u10 25 :: u10 26 :: u10 27 :: iN .u64 (crr l 16) :: .bool true :: u7 30 :: u7 31 :: u7 32 :: u7 33 :: u7 34 :: u7 35 :: List.replicate 18 un).toArray, []⟩) (by kernel_rfl) ?_
      refine wp_seq ?_
      -- region 10
      refine wl_region ?_
      refine wl_make h21 30 (by kernel_rfl) run_alloc30 ?_
      intro q22 w23 h24
      refine wl_nil ?_
      refine then_at (F := ⟨(.agg (ul l0) :: pt q1 :: pt q4 :: iN .u64 (crr l 16) :: iN .i64 16 :: pt q22 :: un :: iN .i64 16 :: .bool false :: u10 9 :: u10 10 :: u10 11 :: u10 12 :: u10 13 :: u10 14 :: u10 15 :: u10 16 :: u10 17 :: u10 18 :: u10 19 :: u10 20 :: u10 21 :: u10 22 :: u10 23 :: u10 24 :: u10 25 :: u10 26 :: u10 27 :: iN .u64 (crr l 16) :: .bool true :: u7 30 :: u7 31 :: u7 32 :: u7 33 :: u7 34 :: u7 35 :: List.replicate 18 un).toArray, []⟩) (by kernel_rfl) ?_
      refine wp_seq ?_
      refine wp_seq ?_
      -- region 11
      refine wl_region ?_
      refine wl_val (iN .i64 0) (by kernel_rfl) (by kernel_rfl) ?_
      refine wl_nil ?_
      refine then_at (F := ⟨(.agg (ul l0) :: pt q1 :: pt q4 :: iN .u64 (crr l 16) :: iN .i64 16 :: pt q22 :: iN .i64 0 :: iN .i64 16 :: .bool false :: u10 9 :: u10 10 :: u10 11 :: u10 12 :: u10 13 :: u10 14 :: u10 15 :: u10 16 :: u10 17 :: u10 18 :: u10 19 :: u10 20 :: u10 21 :: u10 22 :: u10 23 :: u10 24 :: u10 25 :: u10 26 :: u10 27 :: iN .u64 (crr l 16) :: .bool true :: u7 30 :: u7 31 :: u7 32 :: u7 33 :: u7 34 :: u7 35 :: List.replicate 18 un).toArray, []⟩) (by kernel_rfl) ?_
      refine wp_block ?_
      refine wp_count (fun k A w' => ∃ u25 : Nat → Value, A = ⟨(.agg (ul l0) :: pt q1 :: pt q4 :: iN .u64 (crr l 16) :: iN .i64 16 :: pt q22 :: iN .i64 k :: iN .i64 16 :: .bool false :: u10 9 :: u10 10 :: u10 11 :: u10 12 :: u10 13 :: u10 14 :: u10 15 :: u10 16 :: u10 17 :: u10 18 :: u10 19 :: u10 20 :: u10 21 :: u10 22 :: u10 23 :: u10 24 :: u10 25 :: u10 26 :: u10 27 :: iN .u64 (crr l 16) :: .bool true :: u7 30 :: u7 31 :: u7 32 :: u7 33 :: u7 34 :: u7 35 :: u25 36 :: u25 37 :: u25 38 :: u25 39 :: u25 40 :: u25 41 :: u25 42 :: u25 43 :: u25 44 :: u25 45 :: List.replicate 8 un).toArray, []⟩ ∧ HA w [(q22, 30, rl (num 65536 l % 65536 ^ k)), (q4, 30, rl 0), (q1, 61, ul (digs 65536 16 (num 65536 l)))] w') 16 ?_ ?_ ?_
      · exact ⟨fun i => (([(36, undef), (37, undef), (38, undef), (39, undef), (40, undef), (41, undef), (42, undef), (43, undef), (44, undef), (45, undef)] : List (Nat × Value)).find? (·.1 == i)).elim undef (·.2), by kernel_rfl, (by rw [Nat.pow_zero, Nat.mod_one]; exact h24)⟩
      · rintro k hk _ w26 ⟨u25, rfl, h27⟩
        refine wp_seq ?_
        refine wp_seq ?_
        -- region 12
        refine wl_region ?_
        refine wl_val (iN .i64 k) (by kernel_rfl) (by kernel_rfl) ?_
        refine wl_val (.bool true) (by kernel_rfl) (run_lss (k := .i64) (a := k) (b := 16) (by kernel_rfl) (by kernel_rfl) true (decide_eq_true hk)) ?_
        refine wl_nil ?_
        refine then_at (F := ⟨(.agg (ul l0) :: pt q1 :: pt q4 :: iN .u64 (crr l 16) :: iN .i64 16 :: pt q22 :: iN .i64 k :: iN .i64 16 :: .bool false :: u10 9 :: u10 10 :: u10 11 :: u10 12 :: u10 13 :: u10 14 :: u10 15 :: u10 16 :: u10 17 :: u10 18 :: u10 19 :: u10 20 :: u10 21 :: u10 22 :: u10 23 :: u10 24 :: u10 25 :: u10 26 :: u10 27 :: iN .u64 (crr l 16) :: .bool true :: u7 30 :: u7 31 :: u7 32 :: u7 33 :: u7 34 :: u7 35 :: iN .i64 k :: .bool true :: u25 38 :: u25 39 :: u25 40 :: u25 41 :: u25 42 :: u25 43 :: u25 44 :: u25 45 :: List.replicate 8 un).toArray, []⟩) (by kernel_rfl) ?_
        refine wp_cond_true (by kernel_rfl) ?_
        refine wp_skip ?_
        refine then_at (F := ⟨(.agg (ul l0) :: pt q1 :: pt q4 :: iN .u64 (crr l 16) :: iN .i64 16 :: pt q22 :: iN .i64 k :: iN .i64 16 :: .bool false :: u10 9 :: u10 10 :: u10 11 :: u10 12 :: u10 13 :: u10 14 :: u10 15 :: u10 16 :: u10 17 :: u10 18 :: u10 19 :: u10 20 :: u10 21 :: u10 22 :: u10 23 :: u10 24 :: u10 25 :: u10 26 :: u10 27 :: iN .u64 (crr l 16) :: .bool true :: u7 30 :: u7 31 :: u7 32 :: u7 33 :: u7 34 :: u7 35 :: iN .i64 k :: .bool true :: u25 38 :: u25 39 :: u25 40 :: u25 41 :: u25 42 :: u25 43 :: u25 44 :: u25 45 :: List.replicate 8 un).toArray, []⟩) (by kernel_rfl) ?_
        refine wp_seq ?_
        refine wp_block ?_
        -- region 14
        refine wl_region ?_
        refine wl_val (iN .i64 k) (by kernel_rfl) (by kernel_rfl) ?_
        refine wl_val (iN .i64 k) (by kernel_rfl) (by kernel_rfl) ?_
        refine wl_val (.pointer (some ⟨q1, k, none⟩)) (by kernel_rfl) (run_addr_arr (q := q1) (a := k) Tryd.underlying61 (fun w => Tryd.sizeOf23 w) (by kernel_rfl) (by kernel_rfl) (by omega)) ?_
        refine wl_val (iN .u64 (dg (digs 65536 16 (num 65536 l)) k)) (by kernel_rfl) (run_load1 (fun w => Tryd.isAgg23 w) (by kernel_rfl) (((h27.get 2 rfl).cell k).trans (ul_get _ k (by rw [digs_length]; exact hk)))) ?_
        refine wl_val (iN .u32 (dg (digs 65536 16 (num 65536 l)) k)) (by kernel_rfl) (run_conv (k := .u64) (a := dg (digs 65536 16 (num 65536 l)) k) .u32 Tryd.underlying23 Tryd.underlying22 (by kernel_rfl) (by simp only [top]; exact Nat.lt_trans (dgD_lt l k hk) (by decide))) ?_
        refine wl_val (.pointer (some ⟨q22, k, none⟩)) (by kernel_rfl) (run_addr_arr (q := q22) (a := k) Tryd.underlying30 (fun w => Tryd.sizeOf22 w) (by kernel_rfl) (by kernel_rfl) (by omega)) ?_
        refine wl_put (k := .u32) (z := ((dg (digs 65536 16 (num 65536 l)) k : Nat) : Int)) h27 0 rfl k (by rw [rl_size]; exact hk) (by kernel_rfl) (fun w => Tryd.sizeOf22 w) (by kernel_rfl) (by kernel_rfl) ?_
        intro w28 h29
        have h30 : HA w [(q22, 30, rl (num 65536 l % 65536 ^ (k + 1))), (q4, 30, rl 0), (q1, 61, ul (digs 65536 16 (num 65536 l)))] w28 := (by rw [← copy_put l k hk]; exact h29)
        clear h29
        refine wl_nil ?_
        refine block_normal ?_
        refine then_at (F := ⟨(.agg (ul l0) :: pt q1 :: pt q4 :: iN .u64 (crr l 16) :: iN .i64 16 :: pt q22 :: iN .i64 k :: iN .i64 16 :: .bool false :: u10 9 :: u10 10 :: u10 11 :: u10 12 :: u10 13 :: u10 14 :: u10 15 :: u10 16 :: u10 17 :: u10 18 :: u10 19 :: u10 20 :: u10 21 :: u10 22 :: u10 23 :: u10 24 :: u10 25 :: u10 26 :: u10 27 :: iN .u64 (crr l 16) :: .bool true :: u7 30 :: u7 31 :: u7 32 :: u7 33 :: u7 34 :: u7 35 :: iN .i64 k :: .bool true :: u25 38 :: u25 39 :: iN .i64 k :: iN .i64 k :: .pointer (some ⟨q1, k, none⟩) :: iN .u64 (dg (digs 65536 16 (num 65536 l)) k) :: iN .u32 (dg (digs 65536 16 (num 65536 l)) k) :: .pointer (some ⟨q22, k, none⟩) :: List.replicate 8 un).toArray, []⟩) (by kernel_rfl) ?_
        -- region 13
        refine wl_region ?_
        refine wl_val (iN .i64 k) (by kernel_rfl) (by kernel_rfl) ?_
        refine wl_val (iN .i64 (k + 1)) (by kernel_rfl) (run_add (k := .i64) (a := k) (b := 1) (by kernel_rfl) (by kernel_rfl) (by simp only [top]; omega)) ?_
        refine wl_val (iN .i64 (k + 1)) (by kernel_rfl) (by kernel_rfl) ?_
        refine wl_nil ?_
        exact then_I ⟨fun i => (([(36, iN .i64 k), (37, .bool true), (38, iN .i64 k), (39, iN .i64 (k + 1)), (40, iN .i64 k), (41, iN .i64 k), (42, .pointer (some ⟨q1, k, none⟩)), (43, iN .u64 (dg (digs 65536 16 (num 65536 l)) k)), (44, iN .u32 (dg (digs 65536 16 (num 65536 l)) k)), (45, .pointer (some ⟨q22, k, none⟩))] : List (Nat × Value)).find? (·.1 == i)).elim undef (·.2), by kernel_rfl, h30⟩
      · rintro _ w31 ⟨u25, rfl, h32⟩
        refine wp_seq ?_
        refine wp_seq ?_
        -- region 12
        refine wl_region ?_
        refine wl_val (iN .i64 16) (by kernel_rfl) (by kernel_rfl) ?_
        refine wl_val (.bool false) (by kernel_rfl) (run_lss (k := .i64) (a := 16) (b := 16) (by kernel_rfl) (by kernel_rfl) false (by decide)) ?_
        refine wl_nil ?_
        refine then_at (F := ⟨(.agg (ul l0) :: pt q1 :: pt q4 :: iN .u64 (crr l 16) :: iN .i64 16 :: pt q22 :: iN .i64 16 :: iN .i64 16 :: .bool false :: u10 9 :: u10 10 :: u10 11 :: u10 12 :: u10 13 :: u10 14 :: u10 15 :: u10 16 :: u10 17 :: u10 18 :: u10 19 :: u10 20 :: u10 21 :: u10 22 :: u10 23 :: u10 24 :: u10 25 :: u10 26 :: u10 27 :: iN .u64 (crr l 16) :: .bool true :: u7 30 :: u7 31 :: u7 32 :: u7 33 :: u7 34 :: u7 35 :: iN .i64 16 :: .bool false :: u25 38 :: u25 39 :: u25 40 :: u25 41 :: u25 42 :: u25 43 :: u25 44 :: u25 45 :: List.replicate 8 un).toArray, []⟩) (by kernel_rfl) ?_
        refine wp_cond_false (by kernel_rfl) ?_
        refine wp_exit ?_
        repeat first | refine then_exit ?_ | refine block_exit ?_ | refine block_exit_ne (by decide) ?_
        have hlow : num 65536 l < 65536 ^ 16 := by rw [crr16 l hl] at hc; exact (Nat.div_eq_zero_iff_lt (by decide)).1 hc
        have h33 : HA w [(q22, 30, rl (num 65536 l)), (q4, 30, rl 0), (q1, 61, ul (digs 65536 16 (num 65536 l)))] w31 := by have h9 := h32; rw [Nat.mod_eq_of_lt hlow] at h9; exact h9
        refine then_at (F := ⟨(.agg (ul l0) :: pt q1 :: pt q4 :: iN .u64 (crr l 16) :: iN .i64 16 :: pt q22 :: iN .i64 16 :: iN .i64 16 :: .bool false :: u10 9 :: u10 10 :: u10 11 :: u10 12 :: u10 13 :: u10 14 :: u10 15 :: u10 16 :: u10 17 :: u10 18 :: u10 19 :: u10 20 :: u10 21 :: u10 22 :: u10 23 :: u10 24 :: u10 25 :: u10 26 :: u10 27 :: iN .u64 (crr l 16) :: .bool true :: u7 30 :: u7 31 :: u7 32 :: u7 33 :: u7 34 :: u7 35 :: iN .i64 16 :: .bool false :: u25 38 :: u25 39 :: u25 40 :: u25 41 :: u25 42 :: u25 43 :: u25 44 :: u25 45 :: List.replicate 8 un).toArray, []⟩) (by kernel_rfl) ?_
        refine wp_seq ?_
        refine wp_block ?_
        refine wp_while (fun m A w' => ∃ (v : Nat) (u34 : Nat → Value), m = v ∧ A = ⟨(.agg (ul l0) :: pt q1 :: pt q4 :: iN .u64 (crr l 16) :: iN .i64 16 :: pt q22 :: iN .i64 16 :: iN .i64 16 :: .bool false :: u10 9 :: u10 10 :: u10 11 :: u10 12 :: u10 13 :: u10 14 :: u10 15 :: u10 16 :: u10 17 :: u10 18 :: u10 19 :: u10 20 :: u10 21 :: u10 22 :: u10 23 :: u10 24 :: u10 25 :: u10 26 :: u10 27 :: iN .u64 (crr l 16) :: .bool true :: u7 30 :: u7 31 :: u7 32 :: u7 33 :: u7 34 :: u7 35 :: iN .i64 16 :: .bool false :: u25 38 :: u25 39 :: u25 40 :: u25 41 :: u25 42 :: u25 43 :: u25 44 :: u25 45 :: u34 46 :: u34 47 :: u34 48 :: u34 49 :: u34 50 :: u34 51 :: u34 52 :: List.replicate 1 un).toArray, []⟩ ∧ HA w [(q22, 30, rl v), (q4, 30, rl 0), (q1, 61, ul (digs 65536 16 (num 65536 l)))] w' ∧ v < 65536 ^ 16 ∧ v % P = num 65536 l0 % P) (num 65536 l) ?_ ?_
        · exact ⟨num 65536 l, fun i => (([(46, undef), (47, undef), (48, undef), (49, undef), (50, undef), (51, undef), (52, undef)] : List (Nat × Value)).find? (·.1 == i)).elim undef (·.2), rfl, by kernel_rfl, h33, hlow, hN⟩
        rintro v _ w35 ⟨_, u34, rfl, rfl, h36, hv16, hvN⟩
        refine wp_seq ?_
        refine wp_seq ?_
        by_cases hlt : v < P
        · -- region 15
          refine wp_region_sure ⟨(.agg (ul l0) :: pt q1 :: pt q4 :: iN .u64 (crr l 16) :: iN .i64 16 :: pt q22 :: iN .i64 16 :: iN .i64 16 :: .bool false :: u10 9 :: u10 10 :: u10 11 :: u10 12 :: u10 13 :: u10 14 :: u10 15 :: u10 16 :: u10 17 :: u10 18 :: u10 19 :: u10 20 :: u10 21 :: u10 22 :: u10 23 :: u10 24 :: u10 25 :: u10 26 :: u10 27 :: iN .u64 (crr l 16) :: .bool true :: u7 30 :: u7 31 :: u7 32 :: u7 33 :: u7 34 :: u7 35 :: iN .i64 16 :: .bool false :: u25 38 :: u25 39 :: u25 40 :: u25 41 :: u25 42 :: u25 43 :: u25 44 :: u25 45 :: rarr v :: rarr P :: .bool true :: .bool false :: u34 50 :: u34 51 :: u34 52 :: List.replicate 1 un).toArray, []⟩ (HA w [(q22, 30, rl v), (q4, 30, rl 0), (q1, 61, ul (digs 65536 16 (num 65536 l)))]) [rarr v, rarr P, .bool true, .bool false] (by kernel_rfl) (by kernel_rfl) (by kernel_rfl) (by kernel_rfl) (fun _ _ _ h => h) h36.drew ?_ ?_
          · refine AllSure.cons (OpSure.take (v := rarr v) (by kernel_rfl) (by kernel_rfl) (fun _ h => run_load_blk (by kernel_rfl) (h.get 0 rfl) Tryd.underlying30 rfl (info_rl _))) ?_
            refine AllSure.cons (sure_call (v := rarr P) (by kernel_rfl) (by kernel_rfl) enter38 HA.keep #[] (by kernel_rfl) (fun w' h' => rprime_any w')) ?_
            refine AllSure.cons (sure_call (v := .bool true) (by kernel_rfl) (by kernel_rfl) enter37 HA.keep #[rarr v, rarr P] (by kernel_rfl) (fun w' h' => rless_yes v P hv16 (by decide) hlt w')) ?_
            refine AllSure.cons (OpSure.take (v := .bool false) (by kernel_rfl) (by kernel_rfl) (fun _ _ => (by kernel_rfl))) ?_
            exact AllSure.nil
          intro w37 h38
          refine then_at (F := ⟨(.agg (ul l0) :: pt q1 :: pt q4 :: iN .u64 (crr l 16) :: iN .i64 16 :: pt q22 :: iN .i64 16 :: iN .i64 16 :: .bool false :: u10 9 :: u10 10 :: u10 11 :: u10 12 :: u10 13 :: u10 14 :: u10 15 :: u10 16 :: u10 17 :: u10 18 :: u10 19 :: u10 20 :: u10 21 :: u10 22 :: u10 23 :: u10 24 :: u10 25 :: u10 26 :: u10 27 :: iN .u64 (crr l 16) :: .bool true :: u7 30 :: u7 31 :: u7 32 :: u7 33 :: u7 34 :: u7 35 :: iN .i64 16 :: .bool false :: u25 38 :: u25 39 :: u25 40 :: u25 41 :: u25 42 :: u25 43 :: u25 44 :: u25 45 :: rarr v :: rarr P :: .bool true :: .bool false :: u34 50 :: u34 51 :: u34 52 :: List.replicate 1 un).toArray, []⟩) (by kernel_rfl) ?_
          refine wp_cond_false (by kernel_rfl) ?_
          refine wp_exit ?_
          repeat first | refine then_exit ?_ | refine block_exit ?_ | refine block_exit_ne (by decide) ?_
          refine then_at (F := ⟨(.agg (ul l0) :: pt q1 :: pt q4 :: iN .u64 (crr l 16) :: iN .i64 16 :: pt q22 :: iN .i64 16 :: iN .i64 16 :: .bool false :: u10 9 :: u10 10 :: u10 11 :: u10 12 :: u10 13 :: u10 14 :: u10 15 :: u10 16 :: u10 17 :: u10 18 :: u10 19 :: u10 20 :: u10 21 :: u10 22 :: u10 23 :: u10 24 :: u10 25 :: u10 26 :: u10 27 :: iN .u64 (crr l 16) :: .bool true :: u7 30 :: u7 31 :: u7 32 :: u7 33 :: u7 34 :: u7 35 :: iN .i64 16 :: .bool false :: u25 38 :: u25 39 :: u25 40 :: u25 41 :: u25 42 :: u25 43 :: u25 44 :: u25 45 :: rarr v :: rarr P :: .bool true :: .bool false :: u34 50 :: u34 51 :: u34 52 :: List.replicate 1 un).toArray, []⟩) (by kernel_rfl) ?_
          refine wp_seq ?_
          -- region 17
          refine wl_region ?_
          refine wl_load h38 0 rfl (by kernel_rfl) (by kernel_rfl) Tryd.underlying30 rfl (info_rl _) ?_
          refine wl_fill (c' := rl v) h38 1 rfl (by kernel_rfl) (by kernel_rfl) (by kernel_rfl) (rl_sz _ _) (info_rl _) (one_rl _) ?_
          intro w39 (h40 : HA w [(q22, 30, rl v), (q4, 30, rl v), (q1, 61, ul (digs 65536 16 (num 65536 l)))] w39)
          refine wl_nil ?_
          refine then_at (F := ⟨(.agg (ul l0) :: pt q1 :: pt q4 :: iN .u64 (crr l 16) :: iN .i64 16 :: pt q22 :: iN .i64 16 :: iN .i64 16 :: .bool false :: u10 9 :: u10 10 :: u10 11 :: u10 12 :: u10 13 :: u10 14 :: u10 15 :: u10 16 :: u10 17 :: u10 18 :: u10 19 :: u10 20 :: u10 21 :: u10 22 :: u10 23 :: u10 24 :: u10 25 :: u10 26 :: u10 27 :: iN .u64 (crr l 16) :: .bool true :: u7 30 :: u7 31 :: u7 32 :: u7 33 :: u7 34 :: u7 35 :: iN .i64 16 :: .bool false :: u25 38 :: u25 39 :: u25 40 :: u25 41 :: u25 42 :: u25 43 :: u25 44 :: u25 45 :: rarr v :: rarr P :: .bool true :: .bool false :: u34 50 :: u34 51 :: u34 52 :: rarr v :: List.replicate 0 un).toArray, []⟩) (by kernel_rfl) ?_
          refine wp_ret ?_
          repeat first | refine then_ret ?_ | refine block_ret ?_
          exact bodyPost_ret (v := rarr v) (res_cell (p := 2) (by kernel_rfl) (by kernel_rfl) (h40.get 1 rfl) Tryd.underlying30 rfl (info_rl _)) rfl ⟨by rw [← hvN, Nat.mod_eq_of_lt hlt], h40.old⟩
        · -- region 15
          refine wp_region_sure ⟨(.agg (ul l0) :: pt q1 :: pt q4 :: iN .u64 (crr l 16) :: iN .i64 16 :: pt q22 :: iN .i64 16 :: iN .i64 16 :: .bool false :: u10 9 :: u10 10 :: u10 11 :: u10 12 :: u10 13 :: u10 14 :: u10 15 :: u10 16 :: u10 17 :: u10 18 :: u10 19 :: u10 20 :: u10 21 :: u10 22 :: u10 23 :: u10 24 :: u10 25 :: u10 26 :: u10 27 :: iN .u64 (crr l 16) :: .bool true :: u7 30 :: u7 31 :: u7 32 :: u7 33 :: u7 34 :: u7 35 :: iN .i64 16 :: .bool false :: u25 38 :: u25 39 :: u25 40 :: u25 41 :: u25 42 :: u25 43 :: u25 44 :: u25 45 :: rarr v :: rarr P :: .bool false :: .bool true :: u34 50 :: u34 51 :: u34 52 :: List.replicate 1 un).toArray, []⟩ (HA w [(q22, 30, rl v), (q4, 30, rl 0), (q1, 61, ul (digs 65536 16 (num 65536 l)))]) [rarr v, rarr P, .bool false, .bool true] (by kernel_rfl) (by kernel_rfl) (by kernel_rfl) (by kernel_rfl) (fun _ _ _ h => h) h36.drew ?_ ?_
          · refine AllSure.cons (OpSure.take (v := rarr v) (by kernel_rfl) (by kernel_rfl) (fun _ h => run_load_blk (by kernel_rfl) (h.get 0 rfl) Tryd.underlying30 rfl (info_rl _))) ?_
            refine AllSure.cons (sure_call (v := rarr P) (by kernel_rfl) (by kernel_rfl) enter38 HA.keep #[] (by kernel_rfl) (fun w' h' => rprime_any w')) ?_
            refine AllSure.cons (sure_call (v := .bool false) (by kernel_rfl) (by kernel_rfl) enter37 HA.keep #[rarr v, rarr P] (by kernel_rfl) (fun w' h' => rless_no v P hv16 (by decide) hlt w')) ?_
            refine AllSure.cons (OpSure.take (v := .bool true) (by kernel_rfl) (by kernel_rfl) (fun _ _ => (by kernel_rfl))) ?_
            exact AllSure.nil
          intro w41 h42
          refine then_at (F := ⟨(.agg (ul l0) :: pt q1 :: pt q4 :: iN .u64 (crr l 16) :: iN .i64 16 :: pt q22 :: iN .i64 16 :: iN .i64 16 :: .bool false :: u10 9 :: u10 10 :: u10 11 :: u10 12 :: u10 13 :: u10 14 :: u10 15 :: u10 16 :: u10 17 :: u10 18 :: u10 19 :: u10 20 :: u10 21 :: u10 22 :: u10 23 :: u10 24 :: u10 25 :: u10 26 :: u10 27 :: iN .u64 (crr l 16) :: .bool true :: u7 30 :: u7 31 :: u7 32 :: u7 33 :: u7 34 :: u7 35 :: iN .i64 16 :: .bool false :: u25 38 :: u25 39 :: u25 40 :: u25 41 :: u25 42 :: u25 43 :: u25 44 :: u25 45 :: rarr v :: rarr P :: .bool false :: .bool true :: u34 50 :: u34 51 :: u34 52 :: List.replicate 1 un).toArray, []⟩) (by kernel_rfl) ?_
          refine wp_cond_true (by kernel_rfl) ?_
          refine wp_skip ?_
          refine then_at (F := ⟨(.agg (ul l0) :: pt q1 :: pt q4 :: iN .u64 (crr l 16) :: iN .i64 16 :: pt q22 :: iN .i64 16 :: iN .i64 16 :: .bool false :: u10 9 :: u10 10 :: u10 11 :: u10 12 :: u10 13 :: u10 14 :: u10 15 :: u10 16 :: u10 17 :: u10 18 :: u10 19 :: u10 20 :: u10 21 :: u10 22 :: u10 23 :: u10 24 :: u10 25 :: u10 26 :: u10 27 :: iN .u64 (crr l 16) :: .bool true :: u7 30 :: u7 31 :: u7 32 :: u7 33 :: u7 34 :: u7 35 :: iN .i64 16 :: .bool false :: u25 38 :: u25 39 :: u25 40 :: u25 41 :: u25 42 :: u25 43 :: u25 44 :: u25 45 :: rarr v :: rarr P :: .bool false :: .bool true :: u34 50 :: u34 51 :: u34 52 :: List.replicate 1 un).toArray, []⟩) (by kernel_rfl) ?_
          refine wp_block ?_
          -- region 16
          refine wp_region_ghost (fun _ : Nat → Nat => (⟨(.agg (ul l0) :: pt q1 :: pt q4 :: iN .u64 (crr l 16) :: iN .i64 16 :: pt q22 :: iN .i64 16 :: iN .i64 16 :: .bool false :: u10 9 :: u10 10 :: u10 11 :: u10 12 :: u10 13 :: u10 14 :: u10 15 :: u10 16 :: u10 17 :: u10 18 :: u10 19 :: u10 20 :: u10 21 :: u10 22 :: u10 23 :: u10 24 :: u10 25 :: u10 26 :: u10 27 :: iN .u64 (crr l 16) :: .bool true :: u7 30 :: u7 31 :: u7 32 :: u7 33 :: u7 34 :: u7 35 :: iN .i64 16 :: .bool false :: u25 38 :: u25 39 :: u25 40 :: u25 41 :: u25 42 :: u25 43 :: u25 44 :: u25 45 :: rarr v :: rarr P :: .bool false :: .bool true :: rarr v :: rarr P :: rarr (v - P) :: List.replicate 1 un).toArray, []⟩ : Act)) (GF w [(q22, 30, rl v), (q4, 30, rl 0), (q1, 61, ul (digs 65536 16 (num 65536 l)))] 3 0 0 q22 30 (rl (v - P))) [rarr v, rarr P, rarr (v - P), undef] (by kernel_rfl) (by kernel_rfl) (by kernel_rfl) (by kernel_rfl) (fun _ _ _ _ h => h) (fun d hd => GF.start h42.drew (hd 3 (by decide))) ?_ ?_
          · refine AllGhost.cons (gf_load 0 rfl (by decide) (fun _ => by kernel_rfl) (fun _ => by kernel_rfl) (fun _ => by kernel_rfl) Tryd.underlying30 rfl (info_rl _)) ?_
            refine AllGhost.cons (gf_call (v := rarr P) (by decide) (fun _ => by kernel_rfl) (fun _ => by kernel_rfl) enter38 #[] (fun _ => by kernel_rfl) (fun w' => rprime_any w')) ?_
            refine AllGhost.cons (gf_call (v := rarr (v - P)) (by decide) (fun _ => by kernel_rfl) (fun _ => by kernel_rfl) enter44 #[rarr v, rarr P] (fun _ => by kernel_rfl) (fun w' => rminus_any v P hv16 (Nat.le_of_not_lt hlt) w')) ?_
            refine AllGhost.cons (gf_fill rfl (rl_sz _ _) (fun _ => by kernel_rfl) (fun _ => by kernel_rfl) (fun _ => by kernel_rfl) (fun _ => by kernel_rfl) (info_rl _) (one_rl _) (by decide) (by kernel_rfl)) ?_
            exact AllGhost.nil
          intro _ w43 g44
          have h45 : HA w [(q22, 30, rl (v - P)), (q4, 30, rl 0), (q1, 61, ul (digs 65536 16 (num 65536 l)))] w43 := g44.held
          clear g44
          refine block_normal ?_
          exact then_I ⟨v - P, (Nat.sub_lt (Nat.lt_of_lt_of_le P_pos (Nat.le_of_not_lt hlt)) P_pos), v - P, fun i => (([(46, rarr v), (47, rarr P), (48, .bool false), (49, .bool true), (50, rarr v), (51, rarr P), (52, rarr (v - P))] : List (Nat × Value)).find? (·.1 == i)).elim undef (·.2), rfl, by kernel_rfl, h45, Nat.lt_of_le_of_lt (Nat.sub_le v P) hv16, (by rw [← hvN]; exact (Nat.mod_eq_sub_mod (Nat.le_of_not_lt hlt)).symm)⟩
    · -- region 8
      refine wl_region ?_
      refine wl_val (iN .u64 (crr l 16)) (by kernel_rfl) (by kernel_rfl) ?_
      refine wl_val (.bool false) (by kernel_rfl) (run_eqi (k := .u64) (a := crr l 16) (b := 0) (by kernel_rfl) (by kernel_rfl) false (decide_eq_false hc)) ?_
      refine wl_nil ?_
      refine then_at (F := ⟨(.agg (ul l0) :: pt q1 :: pt q4 :: iN .u64 (crr l 16) :: iN .i64 16 :: un :: un :: iN .i64 16 :: .bool false :: u10 9 :: u10 10 :: u10 11 :: u10 12 :: u10 13 :: u10 14 :: u10 15 :: u10 16 :: u10 17 :: u10 18 :: u10 19 :: u10 20 :: u10 21 :: u10 22 :: u10 23 :: u10 24 :: u10 25 :: u10 26 :: u10 27 :: iN .u64 (crr l 16) :: .bool false :: u7 30 :: u7 31 :: u7 32 :: u7 33 :: u7 34 :: u7 35 :: List.replicate 18 un).toArray, []⟩) (by kernel_rfl) ?_
      refine wp_cond_false (by kernel_rfl) ?_
      refine wp_skip ?_
      refine then_at (F := ⟨(.agg (ul l0) :: pt q1 :: pt q4 :: iN .u64 (crr l 16) :: iN .i64 16 :: un :: un :: iN .i64 16 :: .bool false :: u10 9 :: u10 10 :: u10 11 :: u10 12 :: u10 13 :: u10 14 :: u10 15 :: u10 16 :: u10 17 :: u10 18 :: u10 19 :: u10 20 :: u10 21 :: u10 22 :: u10 23 :: u10 24 :: u10 25 :: u10 26 :: u10 27 :: iN .u64 (crr l 16) :: .bool false :: u7 30 :: u7 31 :: u7 32 :: u7 33 :: u7 34 :: u7 35 :: List.replicate 18 un).toArray, []⟩) (by kernel_rfl) ?_
      -- region 9
      refine wl_region ?_
      refine wl_val (.pointer (some ⟨q1, 0, none⟩)) (by kernel_rfl) (run_addr_arr (q := q1) (a := 0) Tryd.underlying61 (fun w => Tryd.sizeOf23 w) (by kernel_rfl) (by kernel_rfl) (by decide)) ?_
      refine wl_val (iN .u64 (dg (digs 65536 16 (num 65536 l)) 0)) (by kernel_rfl) (run_load1 (fun w => Tryd.isAgg23 w) (by kernel_rfl) (((h21.get 1 rfl).cell 0).trans (ul_get _ 0 (by rw [digs_length]; decide)))) ?_
      refine wl_val (iN .u64 (crr l 16)) (by kernel_rfl) (by kernel_rfl) ?_
      refine wl_val (iN .u64 (38 * (crr l 16))) (by kernel_rfl) (run_mul (k := .u64) (a := 38) (b := crr l 16) (by kernel_rfl) (by kernel_rfl) (by simp only [top]; omega)) ?_
      refine wl_val (iN .u64 ((dg (digs 65536 16 (num 65536 l)) 0) + (38 * (crr l 16)))) (by kernel_rfl) (run_add (k := .u64) (a := dg (digs 65536 16 (num 65536 l)) 0) (b := 38 * (crr l 16)) (by kernel_rfl) (by kernel_rfl) (by simp only [top]; omega)) ?_
      refine wl_val (.pointer (some ⟨q1, 0, none⟩)) (by kernel_rfl) (run_addr_arr (q := q1) (a := 0) Tryd.underlying61 (fun w => Tryd.sizeOf23 w) (by kernel_rfl) (by kernel_rfl) (by decide)) ?_
      refine wl_put (k := .u64) (z := (((dg (digs 65536 16 (num 65536 l)) 0) + (38 * (crr l 16)) : Nat) : Int)) h21 1 rfl 0 (by rw [ul_size, digs_length]; decide) (by kernel_rfl) (fun w => Tryd.sizeOf23 w) (by kernel_rfl) (by kernel_rfl) ?_
      intro w46 h47
      have h48 : HA w [(q4, 30, rl 0), (q1, 61, ul (again l))] w46 := (by unfold again; rw [← ul_put]; exact h47)
      clear h47
      refine wl_nil ?_
      refine block_normal ?_
      exact then_I ⟨num 65536 (again l), again_less l hl hc, again l, fun i => (([(3, iN .u64 (crr l 16)), (4, iN .i64 16), (7, iN .i64 16), (8, .bool false), (9, u10 9), (10, u10 10), (11, u10 11), (12, u10 12), (13, u10 13), (14, u10 14), (15, u10 15), (16, u10 16), (17, u10 17), (18, u10 18), (19, u10 19), (20, u10 20), (21, u10 21), (22, u10 22), (23, u10 23), (24, u10 24), (25, u10 25), (26, u10 26), (27, u10 27), (28, iN .u64 (crr l 16)), (29, .bool false), (30, .pointer (some ⟨q1, 0, none⟩)), (31, iN .u64 (dg (digs 65536 16 (num 65536 l)) 0)), (32, iN .u64 (crr l 16)), (33, iN .u64 (38 * (crr l 16))), (34, iN .u64 ((dg (digs 65536 16 (num 65536 l)) 0) + (38 * (crr l 16)))), (35, .pointer (some ⟨q1, 0, none⟩))] : List (Nat × Value)).find? (·.1 == i)).elim undef (·.2), rfl, by kernel_rfl, h48, again_len l, again_bound l hb, (again_mod l hl).trans hN⟩
end Go.Proofs.YtbmfmamhidccbaaDoor
