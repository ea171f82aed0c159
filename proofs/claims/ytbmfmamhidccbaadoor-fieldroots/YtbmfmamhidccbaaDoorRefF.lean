/-
  The reference's functions: Any, Add, Neg, Sub.
-/
import Derived.Test.YtbmfmamhidccbaaDoorRefF1
namespace Go.Proofs.YtbmfmamhidccbaaDoor
open Go.RowKit Num

theorem dgD_lt2 (n k : Nat) (hk : k < 16) : dg (digs 65536 16 n) k < 65536 := by rw [dig_dg n k hk]; exact Nat.mod_lt _ (by decide)

set_option linter.unusedVariables false in
set_option maxRecDepth 100000 in
set_option maxHeartbeats 2000000 in
theorem rany_any (l : List UInt8) (hl : l.length = 32) (w : World) : Calls Tryd.prog 21 #[.agg (cs l).toArray] w fun e w' => e = .returned (rarr (anyP l)) ∧ Below w.heap.size w w' := by
  have H0 := HA.start w
  go_enter Tryd.func21, Tryd.ntmps21
  refine wp_seq ?_
  -- region 0
  refine wl_region ?_
  refine wl_make H0 40 (by kernel_rfl) (run_box40 (c := (cs l).toArray) (by kernel_rfl)) ?_
  intro q1 w2 h3
  refine wl_make h3 30 (by kernel_rfl) run_alloc30 ?_
  intro q4 w5 h6
  refine wl_nil ?_
  refine then_at (F := ⟨(.agg (cs l).toArray :: pt q1 :: pt q4 :: List.replicate 27 un).toArray, []⟩) (by kernel_rfl) ?_
  refine wp_seq ?_
  -- region 1
  refine wl_region ?_
  refine wl_make h6 61 (by kernel_rfl) run_alloc61 ?_
  intro q7 w8 h9
  refine wl_nil ?_
  refine then_at (F := ⟨(.agg (cs l).toArray :: pt q1 :: pt q4 :: pt q7 :: List.replicate 26 un).toArray, []⟩) (by kernel_rfl) ?_
  refine wp_seq ?_
  refine wp_seq ?_
  -- region 2
  refine wl_region ?_
  refine wl_val (iN .i64 0) (by kernel_rfl) (by kernel_rfl) ?_
  refine wl_nil ?_
  refine then_at (F := ⟨(.agg (cs l).toArray :: pt q1 :: pt q4 :: pt q7 :: iN .i64 0 :: List.replicate 25 un).toArray, []⟩) (by kernel_rfl) ?_
  refine wp_block ?_
  refine wp_count (fun k A w' => ∃ u10 : Nat → Value, A = ⟨(.agg (cs l).toArray :: pt q1 :: pt q4 :: pt q7 :: iN .i64 k :: u10 5 :: u10 6 :: u10 7 :: u10 8 :: u10 9 :: u10 10 :: u10 11 :: u10 12 :: u10 13 :: u10 14 :: u10 15 :: u10 16 :: u10 17 :: u10 18 :: u10 19 :: u10 20 :: u10 21 :: u10 22 :: u10 23 :: List.replicate 6 un).toArray, []⟩ ∧ HA w [(q7, 61, ul (fillL (digs 65536 16 (numS ⟨l.toArray⟩)) k)), (q4, 30, rl 0), (q1, 40, (cs l).toArray)] w') 16 ?_ ?_ ?_
  · exact ⟨fun ii => (([(5, undef), (6, undef), (7, undef), (8, undef), (9, undef), (10, undef), (11, undef), (12, undef), (13, undef), (14, undef), (15, undef), (16, undef), (17, undef), (18, undef), (19, undef), (20, undef), (21, undef), (22, undef), (23, undef)] : List (Nat × Value)).find? (·.1 == ii)).elim undef (·.2), by kernel_rfl, h9⟩
  · rintro k hk _ w11 ⟨u10, rfl, h12⟩
    refine wp_seq ?_
    refine wp_seq ?_
    -- region 3
    refine wl_region ?_
    refine wl_val (iN .i64 k) (by kernel_rfl) (by kernel_rfl) ?_
    refine wl_val (.bool true) (by kernel_rfl) (run_lss (k := .i64) (a := k) (b := 16) (by kernel_rfl) (by kernel_rfl) true (decide_eq_true hk)) ?_
    refine wl_nil ?_
    refine then_at (F := ⟨(.agg (cs l).toArray :: pt q1 :: pt q4 :: pt q7 :: iN .i64 k :: iN .i64 k :: .bool true :: u10 7 :: u10 8 :: u10 9 :: u10 10 :: u10 11 :: u10 12 :: u10 13 :: u10 14 :: u10 15 :: u10 16 :: u10 17 :: u10 18 :: u10 19 :: u10 20 :: u10 21 :: u10 22 :: u10 23 :: List.replicate 6 un).toArray, []⟩) (by kernel_rfl) ?_
    refine wp_cond_true (by kernel_rfl) ?_
    refine wp_skip ?_
    refine then_at (F := ⟨(.agg (cs l).toArray :: pt q1 :: pt q4 :: pt q7 :: iN .i64 k :: iN .i64 k :: .bool true :: u10 7 :: u10 8 :: u10 9 :: u10 10 :: u10 11 :: u10 12 :: u10 13 :: u10 14 :: u10 15 :: u10 16 :: u10 17 :: u10 18 :: u10 19 :: u10 20 :: u10 21 :: u10 22 :: u10 23 :: List.replicate 6 un).toArray, []⟩) (by kernel_rfl) ?_
    refine wp_seq ?_
    refine wp_block ?_
    -- region 5
    refine wp_region_ghost (fun _ : Nat → Nat => (⟨(.agg (cs l).toArray :: pt q1 :: pt q4 :: pt q7 :: iN .i64 k :: iN .i64 k :: .bool true :: u10 7 :: u10 8 :: iN .i64 k :: iN .i64 k :: iN .i64 (2 * k) :: .pointer (some ⟨q1, 2 * k, none⟩) :: iN .u8 (sb ⟨l.toArray⟩ (2 * k)) :: iN .u64 (sb ⟨l.toArray⟩ (2 * k)) :: iN .i64 k :: iN .i64 (2 * k) :: iN .i64 ((2 * k) + 1) :: .pointer (some ⟨q1, (2 * k) + 1, none⟩) :: iN .u8 (sb ⟨l.toArray⟩ ((2 * k) + 1)) :: iN .u64 (sb ⟨l.toArray⟩ ((2 * k) + 1)) :: iN .u64 ((sb ⟨l.toArray⟩ ((2 * k) + 1)) * 2 ^ 8) :: iN .u64 ((sb ⟨l.toArray⟩ (2 * k)) ||| ((sb ⟨l.toArray⟩ ((2 * k) + 1)) * 2 ^ 8)) :: .pointer (some ⟨q7, k, none⟩) :: List.replicate 6 un).toArray, []⟩ : Act)) (GP w [(q7, 61, ul (fillL (digs 65536 16 (numS ⟨l.toArray⟩)) k)), (q4, 30, rl 0), (q1, 40, (cs l).toArray)] 15 0 q7 61 (ul (fillL (digs 65536 16 (numS ⟨l.toArray⟩)) (k + 1)))) [iN .i64 k, iN .i64 k, iN .i64 (2 * k), .pointer (some ⟨q1, 2 * k, none⟩), iN .u8 (sb ⟨l.toArray⟩ (2 * k)), iN .u64 (sb ⟨l.toArray⟩ (2 * k)), iN .i64 k, iN .i64 (2 * k), iN .i64 ((2 * k) + 1), .pointer (some ⟨q1, (2 * k) + 1, none⟩), iN .u8 (sb ⟨l.toArray⟩ ((2 * k) + 1)), iN .u64 (sb ⟨l.toArray⟩ ((2 * k) + 1)), iN .u64 ((sb ⟨l.toArray⟩ ((2 * k) + 1)) * 2 ^ 8), iN .u64 ((sb ⟨l.toArray⟩ (2 * k)) ||| ((sb ⟨l.toArray⟩ ((2 * k) + 1)) * 2 ^ 8)), .pointer (some ⟨q7, k, none⟩), undef] (by kernel_rfl) (by kernel_rfl) (by kernel_rfl) (by kernel_rfl) (fun _ _ _ _ h => h) (fun d hd => GP.start h12.drew (hd 15 (by decide))) ?_ ?_
    · refine AllGhost.cons (gp_plain (v := iN .i64 k) (by decide) (fun _ => by kernel_rfl) (fun _ => by kernel_rfl) (fun _ _ => (by kernel_rfl))) ?_
      refine AllGhost.cons (gp_plain (v := iN .i64 k) (by decide) (fun _ => by kernel_rfl) (fun _ => by kernel_rfl) (fun _ _ => (by kernel_rfl))) ?_
      refine AllGhost.cons (gp_plain (v := iN .i64 (2 * k)) (by decide) (fun _ => by kernel_rfl) (fun _ => by kernel_rfl) (fun _ _ => (run_mul (k := .i64) (a := 2) (b := k) (by kernel_rfl) (by kernel_rfl) (by simp only [top]; omega)))) ?_
      refine AllGhost.cons (gp_plain (v := .pointer (some ⟨q1, 2 * k, none⟩)) (by decide) (fun _ => by kernel_rfl) (fun _ => by kernel_rfl) (fun _ _ => (run_addr_arr (q := q1) (a := 2 * k) Tryd.underlying40 (fun w => Tryd.sizeOf5 w) (by kernel_rfl) (by kernel_rfl) (by omega)))) ?_
      refine AllGhost.cons (gp_cell (v := iN .u8 (sb ⟨l.toArray⟩ (2 * k))) 2 (by decide) rfl (by decide) (2 * k) (arr_byte l hl (2 * k) (by omega)) (fun w => Tryd.isAgg5 w) (fun _ => by kernel_rfl) (fun _ => by kernel_rfl) (fun _ => by kernel_rfl)) ?_
      refine AllGhost.cons (gp_plain (v := iN .u64 (sb ⟨l.toArray⟩ (2 * k))) (by decide) (fun _ => by kernel_rfl) (fun _ => by kernel_rfl) (fun _ _ => (run_conv (k := .u8) (a := sb ⟨l.toArray⟩ (2 * k)) .u64 Tryd.underlying5 Tryd.underlying23 (by kernel_rfl) (Nat.lt_trans (sb_lt _ _) (by decide))))) ?_
      refine AllGhost.cons (gp_plain (v := iN .i64 k) (by decide) (fun _ => by kernel_rfl) (fun _ => by kernel_rfl) (fun _ _ => (by kernel_rfl))) ?_
      refine AllGhost.cons (gp_plain (v := iN .i64 (2 * k)) (by decide) (fun _ => by kernel_rfl) (fun _ => by kernel_rfl) (fun _ _ => (run_mul (k := .i64) (a := 2) (b := k) (by kernel_rfl) (by kernel_rfl) (by simp only [top]; omega)))) ?_
      refine AllGhost.cons (gp_plain (v := iN .i64 ((2 * k) + 1)) (by decide) (fun _ => by kernel_rfl) (fun _ => by kernel_rfl) (fun _ _ => (run_add (k := .i64) (a := 2 * k) (b := 1) (by kernel_rfl) (by kernel_rfl) (by simp only [top]; omega)))) ?_
      refine AllGhost.cons (gp_plain (v := .pointer (some ⟨q1, (2 * k) + 1, none⟩)) (by decide) (fun _ => by kernel_rfl) (fun _ => by kernel_rfl) (fun _ _ => (run_addr_arr (q := q1) (a := (2 * k) + 1) Tryd.underlying40 (fun w => Tryd.sizeOf5 w) (by kernel_rfl) (by kernel_rfl) (by omega)))) ?_
      refine AllGhost.cons (gp_cell (v := iN .u8 (sb ⟨l.toArray⟩ ((2 * k) + 1))) 2 (by decide) rfl (by decide) ((2 * k) + 1) (arr_byte l hl ((2 * k) + 1) (by omega)) (fun w => Tryd.isAgg5 w) (fun _ => by kernel_rfl) (fun _ => by kernel_rfl) (fun _ => by kernel_rfl)) ?_
      refine AllGhost.cons (gp_plain (v := iN .u64 (sb ⟨l.toArray⟩ ((2 * k) + 1))) (by decide) (fun _ => by kernel_rfl) (fun _ => by kernel_rfl) (fun _ _ => (run_conv (k := .u8) (a := sb ⟨l.toArray⟩ ((2 * k) + 1)) .u64 Tryd.underlying5 Tryd.underlying23 (by kernel_rfl) (Nat.lt_trans (sb_lt _ _) (by decide))))) ?_
      refine AllGhost.cons (gp_plain (v := iN .u64 ((sb ⟨l.toArray⟩ ((2 * k) + 1)) * 2 ^ 8)) (by decide) (fun _ => by kernel_rfl) (fun _ => by kernel_rfl) (fun _ _ => (run_shl (k2 := .u64) (k := .u64) (a := sb ⟨l.toArray⟩ ((2 * k) + 1)) (b := 8) (by kernel_rfl) (by kernel_rfl) (by decide) (Nat.lt_trans (sb_shl _ _) (by decide))))) ?_
      refine AllGhost.cons (gp_plain (v := iN .u64 ((sb ⟨l.toArray⟩ (2 * k)) ||| ((sb ⟨l.toArray⟩ ((2 * k) + 1)) * 2 ^ 8))) (by decide) (fun _ => by kernel_rfl) (fun _ => by kernel_rfl) (fun _ _ => (run_or64 (a := sb ⟨l.toArray⟩ (2 * k)) (b := (sb ⟨l.toArray⟩ ((2 * k) + 1)) * 2 ^ 8) (by kernel_rfl) (by kernel_rfl) (Nat.lt_trans (sb_lt _ _) (by decide)) (Nat.lt_trans (sb_shl _ _) (by decide))))) ?_
      refine AllGhost.cons (gp_plain (v := .pointer (some ⟨q7, k, none⟩)) (by decide) (fun _ => by kernel_rfl) (fun _ => by kernel_rfl) (fun _ _ => (run_addr_arr (q := q7) (a := k) Tryd.underlying61 (fun w => Tryd.sizeOf23 w) (by kernel_rfl) (by kernel_rfl) (by omega)))) ?_
      refine AllGhost.cons (gp_put (k := .u64) (z := (((sb ⟨l.toArray⟩ (2 * k)) ||| ((sb ⟨l.toArray⟩ ((2 * k) + 1)) * 2 ^ 8) : Nat) : Int)) (off := k) rfl (by rw [ul_size, fill_len _ (digs_length _ _ _) k (by omega)]; exact hk) (fill_cells _ (digs_length _ _ _) k hk _ (sb_dig _ k hk)) (fun w => Tryd.sizeOf23 w) (fun _ => by kernel_rfl) (fun _ => by kernel_rfl) (fun _ => by kernel_rfl) (fun _ => by kernel_rfl)) ?_
      exact AllGhost.nil
    intro _ w13 g14
    have h15 : HA w [(q7, 61, ul (fillL (digs 65536 16 (numS ⟨l.toArray⟩)) (k + 1))), (q4, 30, rl 0), (q1, 40, (cs l).toArray)] w13 := g14
    clear g14
    refine block_normal ?_
    refine then_at (F := ⟨(.agg (cs l).toArray :: pt q1 :: pt q4 :: pt q7 :: iN .i64 k :: iN .i64 k :: .bool true :: u10 7 :: u10 8 :: iN .i64 k :: iN .i64 k :: iN .i64 (2 * k) :: .pointer (some ⟨q1, 2 * k, none⟩) :: iN .u8 (sb ⟨l.toArray⟩ (2 * k)) :: iN .u64 (sb ⟨l.toArray⟩ (2 * k)) :: iN .i64 k :: iN .i64 (2 * k) :: iN .i64 ((2 * k) + 1) :: .pointer (some ⟨q1, (2 * k) + 1, none⟩) :: iN .u8 (sb ⟨l.toArray⟩ ((2 * k) + 1)) :: iN .u64 (sb ⟨l.toArray⟩ ((2 * k) + 1)) :: iN .u64 ((sb ⟨l.toArray⟩ ((2 * k) + 1)) * 2 ^ 8) :: iN .u64 ((sb ⟨l.toArray⟩ (2 * k)) ||| ((sb ⟨l.toArray⟩ ((2 * k) + 1)) * 2 ^ 8)) :: .pointer (some ⟨q7, k, none⟩) :: List.replicate 6 un).toArray, []⟩) (by kernel_rfl) ?_
    -- region 4
    refine wl_region ?_
    refine wl_val (iN .i64 k) (by kernel_rfl) (by kernel_rfl) ?_
    refine wl_val (iN .i64 (k + 1)) (by kernel_rfl) (run_add (k := .i64) (a := k) (b := 1) (by kernel_rfl) (by kernel_rfl) (by simp only [top]; omega)) ?_
    refine wl_val (iN .i64 (k + 1)) (by kernel_rfl) (by kernel_rfl) ?_
    refine wl_nil ?_
    exact then_I ⟨fun ii => (([(5, iN .i64 k), (6, .bool true), (7, iN .i64 k), (8, iN .i64 (k + 1)), (9, iN .i64 k), (10, iN .i64 k), (11, iN .i64 (2 * k)), (12, .pointer (some ⟨q1, 2 * k, none⟩)), (13, iN .u8 (sb ⟨l.toArray⟩ (2 * k))), (14, iN .u64 (sb ⟨l.toArray⟩ (2 * k))), (15, iN .i64 k), (16, iN .i64 (2 * k)), (17, iN .i64 ((2 * k) + 1)), (18, .pointer (some ⟨q1, (2 * k) + 1, none⟩)), (19, iN .u8 (sb ⟨l.toArray⟩ ((2 * k) + 1))), (20, iN .u64 (sb ⟨l.toArray⟩ ((2 * k) + 1))), (21, iN .u64 ((sb ⟨l.toArray⟩ ((2 * k) + 1)) * 2 ^ 8)), (22, iN .u64 ((sb ⟨l.toArray⟩ (2 * k)) ||| ((sb ⟨l.toArray⟩ ((2 * k) + 1)) * 2 ^ 8))), (23, .pointer (some ⟨q7, k, none⟩))] : List (Nat × Value)).find? (·.1 == ii)).elim undef (·.2), by kernel_rfl, h15⟩
  · rintro _ w16 ⟨u10, rfl, h17⟩
    refine wp_seq ?_
    refine wp_seq ?_
    -- region 3
    refine wl_region ?_
    refine wl_val (iN .i64 16) (by kernel_rfl) (by kernel_rfl) ?_
    refine wl_val (.bool false) (by kernel_rfl) (run_lss (k := .i64) (a := 16) (b := 16) (by kernel_rfl) (by kernel_rfl) false (by decide)) ?_
    refine wl_nil ?_
    refine then_at (F := ⟨(.agg (cs l).toArray :: pt q1 :: pt q4 :: pt q7 :: iN .i64 16 :: iN .i64 16 :: .bool false :: u10 7 :: u10 8 :: u10 9 :: u10 10 :: u10 11 :: u10 12 :: u10 13 :: u10 14 :: u10 15 :: u10 16 :: u10 17 :: u10 18 :: u10 19 :: u10 20 :: u10 21 :: u10 22 :: u10 23 :: List.replicate 6 un).toArray, []⟩) (by kernel_rfl) ?_
    refine wp_cond_false (by kernel_rfl) ?_
    refine wp_exit ?_
    repeat first | refine then_exit ?_ | refine block_exit ?_ | refine block_exit_ne (by decide) ?_
    have h18 : HA w [(q7, 61, ul (digs 65536 16 (numS ⟨l.toArray⟩))), (q4, 30, rl 0), (q1, 40, (cs l).toArray)] w16 := by have h9 := h17; rw [fill_end _ (digs_length _ _ _)] at h9; exact h9
    refine then_at (F := ⟨(.agg (cs l).toArray :: pt q1 :: pt q4 :: pt q7 :: iN .i64 16 :: iN .i64 16 :: .bool false :: u10 7 :: u10 8 :: u10 9 :: u10 10 :: u10 11 :: u10 12 :: u10 13 :: u10 14 :: u10 15 :: u10 16 :: u10 17 :: u10 18 :: u10 19 :: u10 20 :: u10 21 :: u10 22 :: u10 23 :: List.replicate 6 un).toArray, []⟩) (by kernel_rfl) ?_
    refine wp_seq ?_
    -- region 6
    refine wl_region ?_
    refine wl_val (.pointer (some ⟨q7, 15, none⟩)) (by kernel_rfl) (run_addr_arr (q := q7) (a := 15) Tryd.underlying61 (fun w => Tryd.sizeOf23 w) (by kernel_rfl) (by kernel_rfl) (by decide)) ?_
    refine wl_val (iN .u64 (dg (digs 65536 16 (numS ⟨l.toArray⟩)) 15)) (by kernel_rfl) (run_load1 (fun w => Tryd.isAgg23 w) (by kernel_rfl) (((h18.get 0 rfl).cell 15).trans (ul_get _ 15 (by rw [digs_length]; decide)))) ?_
    refine wl_val (iN .u64 ((dg (digs 65536 16 (numS ⟨l.toArray⟩)) 15) &&& 32767)) (by kernel_rfl) (run_and64 (a := dg (digs 65536 16 (numS ⟨l.toArray⟩)) 15) (b := 32767) (by kernel_rfl) (by kernel_rfl) (by have := dgD_lt2 (numS ⟨l.toArray⟩) 15 (by decide); omega) (by decide)) ?_
    refine wl_val (.pointer (some ⟨q7, 15, none⟩)) (by kernel_rfl) (run_addr_arr (q := q7) (a := 15) Tryd.underlying61 (fun w => Tryd.sizeOf23 w) (by kernel_rfl) (by kernel_rfl) (by decide)) ?_
    refine wl_put (k := .u64) (z := (((dg (digs 65536 16 (numS ⟨l.toArray⟩)) 15) &&& 32767 : Nat) : Int)) h18 0 rfl 15 (by rw [ul_size, digs_length]; decide) (by kernel_rfl) (fun w => Tryd.sizeOf23 w) (by kernel_rfl) (by kernel_rfl) ?_
    intro w19 h20
    have h21 : HA w [(q7, 61, ul (topD (numS ⟨l.toArray⟩))), (q4, 30, rl 0), (q1, 40, (cs l).toArray)] w19 := (by unfold topD; rw [← ul_put]; exact h20)
    clear h20
    refine wl_nil ?_
    refine then_at (F := ⟨(.agg (cs l).toArray :: pt q1 :: pt q4 :: pt q7 :: iN .i64 16 :: iN .i64 16 :: .bool false :: u10 7 :: u10 8 :: u10 9 :: u10 10 :: u10 11 :: u10 12 :: u10 13 :: u10 14 :: u10 15 :: u10 16 :: u10 17 :: u10 18 :: u10 19 :: u10 20 :: u10 21 :: u10 22 :: u10 23 :: .pointer (some ⟨q7, 15, none⟩) :: iN .u64 (dg (digs 65536 16 (numS ⟨l.toArray⟩)) 15) :: iN .u64 ((dg (digs 65536 16 (numS ⟨l.toArray⟩)) 15) &&& 32767) :: .pointer (some ⟨q7, 15, none⟩) :: List.replicate 2 un).toArray, []⟩) (by kernel_rfl) ?_
    refine wp_seq ?_
    -- region 7
    refine wl_region ?_
    refine wl_load h21 0 rfl (by kernel_rfl) (by kernel_rfl) Tryd.underlying61 rfl (by rw [ul_size, topD_len]; exact info61) ?_
    refine wl_call (v := rarr (num 65536 (topD (numS ⟨l.toArray⟩)) % P)) h21 (by kernel_rfl) enter39 #[.agg (ul (topD (numS ⟨l.toArray⟩)))] (by kernel_rfl) (reduced_any _ (topD_len _) (topD_bound _) w19) ?_
    intro w22 h23
    refine wl_fill (c' := rl (num 65536 (topD (numS ⟨l.toArray⟩)) % P)) h23 1 rfl (by kernel_rfl) (by kernel_rfl) (by kernel_rfl) (rl_sz _ _) (info_rl _) (one_rl _) ?_
    intro w24 (h25 : HA w [(q7, 61, ul (topD (numS ⟨l.toArray⟩))), (q4, 30, rl (num 65536 (topD (numS ⟨l.toArray⟩)) % P)), (q1, 40, (cs l).toArray)] w24)
    refine wl_nil ?_
    refine then_at (F := ⟨(.agg (cs l).toArray :: pt q1 :: pt q4 :: pt q7 :: iN .i64 16 :: iN .i64 16 :: .bool false :: u10 7 :: u10 8 :: u10 9 :: u10 10 :: u10 11 :: u10 12 :: u10 13 :: u10 14 :: u10 15 :: u10 16 :: u10 17 :: u10 18 :: u10 19 :: u10 20 :: u10 21 :: u10 22 :: u10 23 :: .pointer (some ⟨q7, 15, none⟩) :: iN .u64 (dg (digs 65536 16 (numS ⟨l.toArray⟩)) 15) :: iN .u64 ((dg (digs 65536 16 (numS ⟨l.toArray⟩)) 15) &&& 32767) :: .pointer (some ⟨q7, 15, none⟩) :: .agg (ul (topD (numS ⟨l.toArray⟩))) :: rarr (num 65536 (topD (numS ⟨l.toArray⟩)) % P) :: List.replicate 0 un).toArray, []⟩) (by kernel_rfl) ?_
    refine wp_ret ?_
    repeat first | refine then_ret ?_ | refine block_ret ?_
    exact bodyPost_ret (v := rarr (num 65536 (topD (numS ⟨l.toArray⟩)) % P)) (res_cell (p := 2) (by kernel_rfl) (by kernel_rfl) (h25.get 1 rfl) Tryd.underlying30 rfl (info_rl _)) rfl ⟨by rw [any_num l hl], h25.old⟩

set_option linter.unusedVariables false in
set_option maxRecDepth 100000 in
set_option maxHeartbeats 2000000 in
theorem radd_any (a b : Nat) (ha : a < 65536 ^ 16) (hb : b < 65536 ^ 16) (w : World) : Calls Tryd.prog 23 #[rarr a, rarr b] w fun e w' => e = .returned (rarr (addP a b)) ∧ Below w.heap.size w w' := by
  have H0 := HA.start w
  go_enter Tryd.func23, Tryd.ntmps23
  refine wp_seq ?_
  -- region 0
  refine wl_region ?_
  refine wl_make H0 30 (by kernel_rfl) (run_box30 (c := rl a) (by kernel_rfl)) ?_
  intro q1 w2 h3
  refine wl_make h3 30 (by kernel_rfl) (run_box30 (c := rl b) (by kernel_rfl)) ?_
  intro q4 w5 h6
  refine wl_make h6 30 (by kernel_rfl) run_alloc30 ?_
  intro q7 w8 h9
  refine wl_nil ?_
  refine then_at (F := ⟨(rarr a :: rarr b :: pt q1 :: pt q4 :: pt q7 :: List.replicate 19 un).toArray, []⟩) (by kernel_rfl) ?_
  refine wp_seq ?_
  -- region 1
  refine wl_region ?_
  refine wl_make h9 61 (by kernel_rfl) run_alloc61 ?_
  intro q10 w11 h12
  refine wl_nil ?_
  refine then_at (F := ⟨(rarr a :: rarr b :: pt q1 :: pt q4 :: pt q7 :: pt q10 :: List.replicate 18 un).toArray, []⟩) (by kernel_rfl) ?_
  refine wp_seq ?_
  refine wp_seq ?_
  -- region 2
  refine wl_region ?_
  refine wl_val (iN .i64 0) (by kernel_rfl) (by kernel_rfl) ?_
  refine wl_nil ?_
  refine then_at (F := ⟨(rarr a :: rarr b :: pt q1 :: pt q4 :: pt q7 :: pt q10 :: iN .i64 0 :: List.replicate 17 un).toArray, []⟩) (by kernel_rfl) ?_
  refine wp_block ?_
  refine wp_count (fun k A w' => ∃ u13 : Nat → Value, A = ⟨(rarr a :: rarr b :: pt q1 :: pt q4 :: pt q7 :: pt q10 :: iN .i64 k :: u13 7 :: u13 8 :: u13 9 :: u13 10 :: u13 11 :: u13 12 :: u13 13 :: u13 14 :: u13 15 :: u13 16 :: u13 17 :: u13 18 :: u13 19 :: u13 20 :: u13 21 :: List.replicate 2 un).toArray, []⟩ ∧ HA w [(q10, 61, ul (fillL (addD a b) k)), (q7, 30, rl 0), (q4, 30, rl b), (q1, 30, rl a)] w') 16 ?_ ?_ ?_
  · exact ⟨fun ii => (([(7, undef), (8, undef), (9, undef), (10, undef), (11, undef), (12, undef), (13, undef), (14, undef), (15, undef), (16, undef), (17, undef), (18, undef), (19, undef), (20, undef), (21, undef)] : List (Nat × Value)).find? (·.1 == ii)).elim undef (·.2), by kernel_rfl, h12⟩
  · rintro k hk _ w14 ⟨u13, rfl, h15⟩
    have hx : a / 65536 ^ k % 65536 < 65536 := Nat.mod_lt _ (by decide)
    have hy : b / 65536 ^ k % 65536 < 65536 := Nat.mod_lt _ (by decide)
    refine wp_seq ?_
    refine wp_seq ?_
    -- region 3
    refine wl_region ?_
    refine wl_val (iN .i64 k) (by kernel_rfl) (by kernel_rfl) ?_
    refine wl_val (.bool true) (by kernel_rfl) (run_lss (k := .i64) (a := k) (b := 16) (by kernel_rfl) (by kernel_rfl) true (decide_eq_true hk)) ?_
    refine wl_nil ?_
    refine then_at (F := ⟨(rarr a :: rarr b :: pt q1 :: pt q4 :: pt q7 :: pt q10 :: iN .i64 k :: iN .i64 k :: .bool true :: u13 9 :: u13 10 :: u13 11 :: u13 12 :: u13 13 :: u13 14 :: u13 15 :: u13 16 :: u13 17 :: u13 18 :: u13 19 :: u13 20 :: u13 21 :: List.replicate 2 un).toArray, []⟩) (by kernel_rfl) ?_
    refine wp_cond_true (by kernel_rfl) ?_
    refine wp_skip ?_
    refine then_at (F := ⟨(rarr a :: rarr b :: pt q1 :: pt q4 :: pt q7 :: pt q10 :: iN .i64 k :: iN .i64 k :: .bool true :: u13 9 :: u13 10 :: u13 11 :: u13 12 :: u13 13 :: u13 14 :: u13 15 :: u13 16 :: u13 17 :: u13 18 :: u13 19 :: u13 20 :: u13 21 :: List.replicate 2 un).toArray, []⟩) (by kernel_rfl) ?_
    refine wp_seq ?_
    refine wp_block ?_
    -- region 5
    refine wp_region_ghost (fun _ : Nat → Nat => (⟨(rarr a :: rarr b :: pt q1 :: pt q4 :: pt q7 :: pt q10 :: iN .i64 k :: iN .i64 k :: .bool true :: u13 9 :: u13 10 :: iN .i64 k :: iN .i64 k :: .pointer (some ⟨q1, k, none⟩) :: iN .u32 (a / 65536 ^ k % 65536) :: iN .u64 (a / 65536 ^ k % 65536) :: iN .i64 k :: .pointer (some ⟨q4, k, none⟩) :: iN .u32 (b / 65536 ^ k % 65536) :: iN .u64 (b / 65536 ^ k % 65536) :: iN .u64 ((a / 65536 ^ k % 65536) + (b / 65536 ^ k % 65536)) :: .pointer (some ⟨q10, k, none⟩) :: List.replicate 2 un).toArray, []⟩ : Act)) (GP w [(q10, 61, ul (fillL (addD a b) k)), (q7, 30, rl 0), (q4, 30, rl b), (q1, 30, rl a)] 11 0 q10 61 (ul (fillL (addD a b) (k + 1)))) [iN .i64 k, iN .i64 k, .pointer (some ⟨q1, k, none⟩), iN .u32 (a / 65536 ^ k % 65536), iN .u64 (a / 65536 ^ k % 65536), iN .i64 k, .pointer (some ⟨q4, k, none⟩), iN .u32 (b / 65536 ^ k % 65536), iN .u64 (b / 65536 ^ k % 65536), iN .u64 ((a / 65536 ^ k % 65536) + (b / 65536 ^ k % 65536)), .pointer (some ⟨q10, k, none⟩), undef] (by kernel_rfl) (by kernel_rfl) (by kernel_rfl) (by kernel_rfl) (fun _ _ _ _ h => h) (fun d hd => GP.start h15.drew (hd 11 (by decide))) ?_ ?_
    · refine AllGhost.cons (gp_plain (v := iN .i64 k) (by decide) (fun _ => by kernel_rfl) (fun _ => by kernel_rfl) (fun _ _ => (by kernel_rfl))) ?_
      refine AllGhost.cons (gp_plain (v := iN .i64 k) (by decide) (fun _ => by kernel_rfl) (fun _ => by kernel_rfl) (fun _ _ => (by kernel_rfl))) ?_
      refine AllGhost.cons (gp_plain (v := .pointer (some ⟨q1, k, none⟩)) (by decide) (fun _ => by kernel_rfl) (fun _ => by kernel_rfl) (fun _ _ => (run_addr_arr (q := q1) (a := k) Tryd.underlying30 (fun w => Tryd.sizeOf22 w) (by kernel_rfl) (by kernel_rfl) (by omega)))) ?_
      refine AllGhost.cons (gp_cell (v := iN .u32 (a / 65536 ^ k % 65536)) 3 (by decide) rfl (by decide) k (rl_get a k (by omega)) (fun w => Tryd.isAgg22 w) (fun _ => by kernel_rfl) (fun _ => by kernel_rfl) (fun _ => by kernel_rfl)) ?_
      refine AllGhost.cons (gp_plain (v := iN .u64 (a / 65536 ^ k % 65536)) (by decide) (fun _ => by kernel_rfl) (fun _ => by kernel_rfl) (fun _ _ => (run_conv (k := .u32) (a := a / 65536 ^ k % 65536) .u64 Tryd.underlying22 Tryd.underlying23 (by kernel_rfl) (Nat.lt_trans (Nat.mod_lt _ (by decide)) (by decide))))) ?_
      refine AllGhost.cons (gp_plain (v := iN .i64 k) (by decide) (fun _ => by kernel_rfl) (fun _ => by kernel_rfl) (fun _ _ => (by kernel_rfl))) ?_
      refine AllGhost.cons (gp_plain (v := .pointer (some ⟨q4, k, none⟩)) (by decide) (fun _ => by kernel_rfl) (fun _ => by kernel_rfl) (fun _ _ => (run_addr_arr (q := q4) (a := k) Tryd.underlying30 (fun w => Tryd.sizeOf22 w) (by kernel_rfl) (by kernel_rfl) (by omega)))) ?_
      refine AllGhost.cons (gp_cell (v := iN .u32 (b / 65536 ^ k % 65536)) 2 (by decide) rfl (by decide) k (rl_get b k (by omega)) (fun w => Tryd.isAgg22 w) (fun _ => by kernel_rfl) (fun _ => by kernel_rfl) (fun _ => by kernel_rfl)) ?_
      refine AllGhost.cons (gp_plain (v := iN .u64 (b / 65536 ^ k % 65536)) (by decide) (fun _ => by kernel_rfl) (fun _ => by kernel_rfl) (fun _ _ => (run_conv (k := .u32) (a := b / 65536 ^ k % 65536) .u64 Tryd.underlying22 Tryd.underlying23 (by kernel_rfl) (Nat.lt_trans (Nat.mod_lt _ (by decide)) (by decide))))) ?_
      refine AllGhost.cons (gp_plain (v := iN .u64 ((a / 65536 ^ k % 65536) + (b / 65536 ^ k % 65536))) (by decide) (fun _ => by kernel_rfl) (fun _ => by kernel_rfl) (fun _ _ => (run_add (k := .u64) (a := a / 65536 ^ k % 65536) (b := b / 65536 ^ k % 65536) (by kernel_rfl) (by kernel_rfl) (by simp only [top]; omega)))) ?_
      refine AllGhost.cons (gp_plain (v := .pointer (some ⟨q10, k, none⟩)) (by decide) (fun _ => by kernel_rfl) (fun _ => by kernel_rfl) (fun _ _ => (run_addr_arr (q := q10) (a := k) Tryd.underlying61 (fun w => Tryd.sizeOf23 w) (by kernel_rfl) (by kernel_rfl) (by omega)))) ?_
      refine AllGhost.cons (gp_put (k := .u64) (z := (((a / 65536 ^ k % 65536) + (b / 65536 ^ k % 65536) : Nat) : Int)) (off := k) rfl (by rw [ul_size, fill_len _ (addD_len a b) k (by omega)]; exact hk) (fill_cells _ (addD_len a b) k hk _ (addD_dg a b k hk).symm) (fun w => Tryd.sizeOf23 w) (fun _ => by kernel_rfl) (fun _ => by kernel_rfl) (fun _ => by kernel_rfl) (fun _ => by kernel_rfl)) ?_
      exact AllGhost.nil
    intro _ w16 g17
    have h18 : HA w [(q10, 61, ul (fillL (addD a b) (k + 1))), (q7, 30, rl 0), (q4, 30, rl b), (q1, 30, rl a)] w16 := g17
    clear g17
    refine block_normal ?_
    refine then_at (F := ⟨(rarr a :: rarr b :: pt q1 :: pt q4 :: pt q7 :: pt q10 :: iN .i64 k :: iN .i64 k :: .bool true :: u13 9 :: u13 10 :: iN .i64 k :: iN .i64 k :: .pointer (some ⟨q1, k, none⟩) :: iN .u32 (a / 65536 ^ k % 65536) :: iN .u64 (a / 65536 ^ k % 65536) :: iN .i64 k :: .pointer (some ⟨q4, k, none⟩) :: iN .u32 (b / 65536 ^ k % 65536) :: iN .u64 (b / 65536 ^ k % 65536) :: iN .u64 ((a / 65536 ^ k % 65536) + (b / 65536 ^ k % 65536)) :: .pointer (some ⟨q10, k, none⟩) :: List.replicate 2 un).toArray, []⟩) (by kernel_rfl) ?_
    -- region 4
    refine wl_region ?_
    refine wl_val (iN .i64 k) (by kernel_rfl) (by kernel_rfl) ?_
    refine wl_val (iN .i64 (k + 1)) (by kernel_rfl) (run_add (k := .i64) (a := k) (b := 1) (by kernel_rfl) (by kernel_rfl) (by simp only [top]; omega)) ?_
    refine wl_val (iN .i64 (k + 1)) (by kernel_rfl) (by kernel_rfl) ?_
    refine wl_nil ?_
    exact then_I ⟨fun ii => (([(7, iN .i64 k), (8, .bool true), (9, iN .i64 k), (10, iN .i64 (k + 1)), (11, iN .i64 k), (12, iN .i64 k), (13, .pointer (some ⟨q1, k, none⟩)), (14, iN .u32 (a / 65536 ^ k % 65536)), (15, iN .u64 (a / 65536 ^ k % 65536)), (16, iN .i64 k), (17, .pointer (some ⟨q4, k, none⟩)), (18, iN .u32 (b / 65536 ^ k % 65536)), (19, iN .u64 (b / 65536 ^ k % 65536)), (20, iN .u64 ((a / 65536 ^ k % 65536) + (b / 65536 ^ k % 65536))), (21, .pointer (some ⟨q10, k, none⟩))] : List (Nat × Value)).find? (·.1 == ii)).elim undef (·.2), by kernel_rfl, h18⟩
  · rintro _ w19 ⟨u13, rfl, h20⟩
    refine wp_seq ?_
    refine wp_seq ?_
    -- region 3
    refine wl_region ?_
    refine wl_val (iN .i64 16) (by kernel_rfl) (by kernel_rfl) ?_
    refine wl_val (.bool false) (by kernel_rfl) (run_lss (k := .i64) (a := 16) (b := 16) (by kernel_rfl) (by kernel_rfl) false (by decide)) ?_
    refine wl_nil ?_
    refine then_at (F := ⟨(rarr a :: rarr b :: pt q1 :: pt q4 :: pt q7 :: pt q10 :: iN .i64 16 :: iN .i64 16 :: .bool false :: u13 9 :: u13 10 :: u13 11 :: u13 12 :: u13 13 :: u13 14 :: u13 15 :: u13 16 :: u13 17 :: u13 18 :: u13 19 :: u13 20 :: u13 21 :: List.replicate 2 un).toArray, []⟩) (by kernel_rfl) ?_
    refine wp_cond_false (by kernel_rfl) ?_
    refine wp_exit ?_
    repeat first | refine then_exit ?_ | refine block_exit ?_ | refine block_exit_ne (by decide) ?_
    have h21 : HA w [(q10, 61, ul (addD a b)), (q7, 30, rl 0), (q4, 30, rl b), (q1, 30, rl a)] w19 := by have h9 := h20; rw [fill_end _ (addD_len a b)] at h9; exact h9
    refine then_at (F := ⟨(rarr a :: rarr b :: pt q1 :: pt q4 :: pt q7 :: pt q10 :: iN .i64 16 :: iN .i64 16 :: .bool false :: u13 9 :: u13 10 :: u13 11 :: u13 12 :: u13 13 :: u13 14 :: u13 15 :: u13 16 :: u13 17 :: u13 18 :: u13 19 :: u13 20 :: u13 21 :: List.replicate 2 un).toArray, []⟩) (by kernel_rfl) ?_
    refine wp_seq ?_
    -- region 6
    refine wl_region ?_
    refine wl_load h21 0 rfl (by kernel_rfl) (by kernel_rfl) Tryd.underlying61 rfl (by rw [ul_size, addD_len]; exact info61) ?_
    refine wl_call (v := rarr (num 65536 (addD a b) % P)) h21 (by kernel_rfl) enter39 #[.agg (ul (addD a b))] (by kernel_rfl) (reduced_any _ (addD_len a b) (addD_bound a b) w19) ?_
    intro w22 h23
    refine wl_fill (c' := rl (num 65536 (addD a b) % P)) h23 1 rfl (by kernel_rfl) (by kernel_rfl) (by kernel_rfl) (rl_sz _ _) (info_rl _) (one_rl _) ?_
    intro w24 (h25 : HA w [(q10, 61, ul (addD a b)), (q7, 30, rl (num 65536 (addD a b) % P)), (q4, 30, rl b), (q1, 30, rl a)] w24)
    refine wl_nil ?_
    refine then_at (F := ⟨(rarr a :: rarr b :: pt q1 :: pt q4 :: pt q7 :: pt q10 :: iN .i64 16 :: iN .i64 16 :: .bool false :: u13 9 :: u13 10 :: u13 11 :: u13 12 :: u13 13 :: u13 14 :: u13 15 :: u13 16 :: u13 17 :: u13 18 :: u13 19 :: u13 20 :: u13 21 :: .agg (ul (addD a b)) :: rarr (num 65536 (addD a b) % P) :: List.replicate 0 un).toArray, []⟩) (by kernel_rfl) ?_
    refine wp_ret ?_
    repeat first | refine then_ret ?_ | refine block_ret ?_
    exact bodyPost_ret (v := rarr (num 65536 (addD a b) % P)) (res_cell (p := 4) (by kernel_rfl) (by kernel_rfl) (h25.get 1 rfl) Tryd.underlying30 rfl (info_rl _)) rfl ⟨by rw [addD_num a b ha hb]; rfl, h25.old⟩

set_option linter.unusedVariables false in
set_option maxRecDepth 100000 in
set_option maxHeartbeats 2000000 in
theorem rneg_nil (a : Nat) (ha : a < P) (h0 : a = 0) (w : World) : Calls Tryd.prog 29 #[rarr a] w fun e w' => e = .returned (rarr (negP a)) ∧ Below w.heap.size w w' := by
  have H0 := HA.start w
  go_enter Tryd.func29, Tryd.ntmps29
  refine wp_seq ?_
  -- region 0
  refine wl_region ?_
  refine wl_make H0 30 (by kernel_rfl) (run_box30 (c := rl a) (by kernel_rfl)) ?_
  intro q1 w2 h3
  refine wl_make h3 30 (by kernel_rfl) run_alloc30 ?_
  intro q4 w5 h6
  refine wl_nil ?_
  refine then_at (F := ⟨(rarr a :: pt q1 :: pt q4 :: List.replicate 7 un).toArray, []⟩) (by kernel_rfl) ?_
  refine wp_seq ?_
  refine wp_seq ?_
  -- region 1
  refine wl_region ?_
  refine wl_load h6 1 rfl (by kernel_rfl) (by kernel_rfl) Tryd.underlying30 rfl (info_rl _) ?_
  refine wl_val (rarr 0) (by kernel_rfl) run_build0 ?_
  refine wl_val (.bool true) (by kernel_rfl) (run_eq30 a 0 (Nat.lt_trans ha (by decide)) (by decide) (by kernel_rfl) (by kernel_rfl) true (decide_eq_true h0)) ?_
  refine wl_nil ?_
  refine then_at (F := ⟨(rarr a :: pt q1 :: pt q4 :: rarr a :: rarr 0 :: .bool true :: List.replicate 4 un).toArray, []⟩) (by kernel_rfl) ?_
  refine wp_cond_true (by kernel_rfl) ?_
  refine wp_seq ?_
  -- region 2
  refine wl_region ?_
  refine wl_load h6 1 rfl (by kernel_rfl) (by kernel_rfl) Tryd.underlying30 rfl (info_rl _) ?_
  refine wl_fill (c' := rl a) h6 0 rfl (by kernel_rfl) (by kernel_rfl) (by kernel_rfl) (rl_sz _ _) (info_rl _) (one_rl _) ?_
  intro w7 (h8 : HA w [(q4, 30, rl a), (q1, 30, rl a)] w7)
  refine wl_nil ?_
  refine then_at (F := ⟨(rarr a :: pt q1 :: pt q4 :: rarr a :: rarr 0 :: .bool true :: rarr a :: List.replicate 3 un).toArray, []⟩) (by kernel_rfl) ?_
  refine wp_ret ?_
  repeat first | refine then_ret ?_ | refine block_ret ?_
  exact bodyPost_ret (v := rarr a) (res_cell (p := 2) (by kernel_rfl) (by kernel_rfl) (h8.get 0 rfl) Tryd.underlying30 rfl (info_rl _)) rfl ⟨by rw [h0]; rfl, h8.old⟩

set_option linter.unusedVariables false in
set_option maxRecDepth 100000 in
set_option maxHeartbeats 2000000 in
theorem rneg_not (a : Nat) (ha : a < P) (h0 : a ≠ 0) (w : World) : Calls Tryd.prog 29 #[rarr a] w fun e w' => e = .returned (rarr (negP a)) ∧ Below w.heap.size w w' := by
  have H0 := HA.start w
  go_enter Tryd.func29, Tryd.ntmps29
  refine wp_seq ?_
  -- region 0
  refine wl_region ?_
  refine wl_make H0 30 (by kernel_rfl) (run_box30 (c := rl a) (by kernel_rfl)) ?_
  intro q1 w2 h3
  refine wl_make h3 30 (by kernel_rfl) run_alloc30 ?_
  intro q4 w5 h6
  refine wl_nil ?_
  refine then_at (F := ⟨(rarr a :: pt q1 :: pt q4 :: List.replicate 7 un).toArray, []⟩) (by kernel_rfl) ?_
  refine wp_seq ?_
  refine wp_seq ?_
  -- region 1
  refine wl_region ?_
  refine wl_load h6 1 rfl (by kernel_rfl) (by kernel_rfl) Tryd.underlying30 rfl (info_rl _) ?_
  refine wl_val (rarr 0) (by kernel_rfl) run_build0 ?_
  refine wl_val (.bool false) (by kernel_rfl) (run_eq30 a 0 (Nat.lt_trans ha (by decide)) (by decide) (by kernel_rfl) (by kernel_rfl) false (decide_eq_false h0)) ?_
  refine wl_nil ?_
  refine then_at (F := ⟨(rarr a :: pt q1 :: pt q4 :: rarr a :: rarr 0 :: .bool false :: List.replicate 4 un).toArray, []⟩) (by kernel_rfl) ?_
  refine wp_cond_false (by kernel_rfl) ?_
  refine wp_skip ?_
  refine then_at (F := ⟨(rarr a :: pt q1 :: pt q4 :: rarr a :: rarr 0 :: .bool false :: List.replicate 4 un).toArray, []⟩) (by kernel_rfl) ?_
  refine wp_seq ?_
  -- region 3
  refine wp_region_ghost (fun _ : Nat → Nat => (⟨(rarr a :: pt q1 :: pt q4 :: rarr a :: rarr 0 :: .bool false :: un :: rarr P :: rarr a :: rarr (P - a) :: List.replicate 0 un).toArray, []⟩ : Act)) (GF w [(q4, 30, rl 0), (q1, 30, rl a)] 3 2 0 q4 30 (rl (P - a))) [rarr P, rarr a, rarr (P - a), undef] (by kernel_rfl) (by kernel_rfl) (by kernel_rfl) (by kernel_rfl) (fun _ _ _ _ h => h) (fun d hd => GF.start h6.drew (hd 3 (by decide))) ?_ ?_
  · refine AllGhost.cons (gf_call (v := rarr P) (by decide) (fun _ => by kernel_rfl) (fun _ => by kernel_rfl) enter38 #[] (fun _ => by kernel_rfl) (fun w' => rprime_any w')) ?_
    refine AllGhost.cons (gf_load2 1 (by decide) rfl (by decide) (fun _ => by kernel_rfl) (fun _ => by kernel_rfl) (fun _ => by kernel_rfl) Tryd.underlying30 rfl (info_rl _)) ?_
    refine AllGhost.cons (gf_call (v := rarr (P - a)) (by decide) (fun _ => by kernel_rfl) (fun _ => by kernel_rfl) enter44 #[rarr P, rarr a] (fun _ => by kernel_rfl) (fun w' => rminus_any P a (by decide) (Nat.le_of_lt ha) w')) ?_
    refine AllGhost.cons (gf_fill rfl (rl_sz _ _) (fun _ => by kernel_rfl) (fun _ => by kernel_rfl) (fun _ => by kernel_rfl) (fun _ => by kernel_rfl) (info_rl _) (one_rl _) (by decide) (by kernel_rfl)) ?_
    exact AllGhost.nil
  intro _ w7 g8
  have h9 : HA w [(q4, 30, rl (P - a)), (q1, 30, rl a)] w7 := g8.held
  clear g8
  refine then_at (F := ⟨(rarr a :: pt q1 :: pt q4 :: rarr a :: rarr 0 :: .bool false :: un :: rarr P :: rarr a :: rarr (P - a) :: List.replicate 0 un).toArray, []⟩) (by kernel_rfl) ?_
  refine wp_ret ?_
  repeat first | refine then_ret ?_ | refine block_ret ?_
  exact bodyPost_ret (v := rarr (P - a)) (res_cell (p := 2) (by kernel_rfl) (by kernel_rfl) (h9.get 0 rfl) Tryd.underlying30 rfl (info_rl _)) rfl ⟨by rw [neg16 a ha h0], h9.old⟩

theorem rneg_any (a : Nat) (ha : a < P) (w : World) : Calls Tryd.prog 29 #[rarr a] w fun e w' => e = .returned (rarr (negP a)) ∧ Below w.heap.size w w' := by
  by_cases h : a = 0
  · exact rneg_nil a ha h w
  · exact rneg_not a ha h w

set_option linter.unusedVariables false in
set_option maxRecDepth 100000 in
set_option maxHeartbeats 2000000 in
theorem rsub_any (a b : Nat) (ha : a < P) (hb : b < P) (w : World) : Calls Tryd.prog 25 #[rarr a, rarr b] w fun e w' => e = .returned (rarr (subP a b)) ∧ Below w.heap.size w w' := by
  have H0 := HA.start w
  go_enter Tryd.func25, Tryd.ntmps25
  refine wp_seq ?_
  -- region 0
  refine wl_region ?_
  refine wl_make H0 30 (by kernel_rfl) (run_box30 (c := rl a) (by kernel_rfl)) ?_
  intro q1 w2 h3
  refine wl_make h3 30 (by kernel_rfl) (run_box30 (c := rl b) (by kernel_rfl)) ?_
  intro q4 w5 h6
  refine wl_make h6 30 (by kernel_rfl) run_alloc30 ?_
  intro q7 w8 h9
  refine wl_nil ?_
  refine then_at (F := ⟨(rarr a :: rarr b :: pt q1 :: pt q4 :: pt q7 :: List.replicate 4 un).toArray, []⟩) (by kernel_rfl) ?_
  refine wp_seq ?_
  -- region 1
  refine wp_region_ghost (fun _ : Nat → Nat => (⟨(rarr a :: rarr b :: pt q1 :: pt q4 :: pt q7 :: rarr a :: rarr b :: rarr (negP b) :: rarr (addP a (negP b)) :: List.replicate 0 un).toArray, []⟩ : Act)) (GF w [(q7, 30, rl 0), (q4, 30, rl b), (q1, 30, rl a)] 4 3 0 q7 30 (rl (addP a (negP b)))) [rarr a, rarr b, rarr (negP b), rarr (addP a (negP b)), undef] (by kernel_rfl) (by kernel_rfl) (by kernel_rfl) (by kernel_rfl) (fun _ _ _ _ h => h) (fun d hd => GF.start h9.drew (hd 4 (by decide))) ?_ ?_
  · refine AllGhost.cons (gf_load2 2 (by decide) rfl (by decide) (fun _ => by kernel_rfl) (fun _ => by kernel_rfl) (fun _ => by kernel_rfl) Tryd.underlying30 rfl (info_rl _)) ?_
    refine AllGhost.cons (gf_load2 1 (by decide) rfl (by decide) (fun _ => by kernel_rfl) (fun _ => by kernel_rfl) (fun _ => by kernel_rfl) Tryd.underlying30 rfl (info_rl _)) ?_
    refine AllGhost.cons (gf_call (v := rarr (negP b)) (by decide) (fun _ => by kernel_rfl) (fun _ => by kernel_rfl) enter29 #[rarr b] (fun _ => by kernel_rfl) (fun w' => rneg_any b hb w')) ?_
    refine AllGhost.cons (gf_call (v := rarr (addP a (negP b))) (by decide) (fun _ => by kernel_rfl) (fun _ => by kernel_rfl) enter23 #[rarr a, rarr (negP b)] (fun _ => by kernel_rfl) (fun w' => radd_any a (negP b) (Nat.lt_trans ha (by decide)) (Nat.lt_trans (negP_lt b) (by decide)) w')) ?_
    refine AllGhost.cons (gf_fill rfl (rl_sz _ _) (fun _ => by kernel_rfl) (fun _ => by kernel_rfl) (fun _ => by kernel_rfl) (fun _ => by kernel_rfl) (info_rl _) (one_rl _) (by decide) (by kernel_rfl)) ?_
    exact AllGhost.nil
  intro _ w10 g11
  have h12 : HA w [(q7, 30, rl (addP a (negP b))), (q4, 30, rl b), (q1, 30, rl a)] w10 := g11.held
  clear g11
  refine then_at (F := ⟨(rarr a :: rarr b :: pt q1 :: pt q4 :: pt q7 :: rarr a :: rarr b :: rarr (negP b) :: rarr (addP a (negP b)) :: List.replicate 0 un).toArray, []⟩) (by kernel_rfl) ?_
  refine wp_ret ?_
  repeat first | refine then_ret ?_ | refine block_ret ?_
  exact bodyPost_ret (v := rarr (addP a (negP b))) (res_cell (p := 4) (by kernel_rfl) (by kernel_rfl) (h12.get 0 rfl) Tryd.underlying30 rfl (info_rl _)) rfl ⟨by rw [sub16 a b hb], h12.old⟩
end Go.Proofs.YtbmfmamhidccbaaDoor
