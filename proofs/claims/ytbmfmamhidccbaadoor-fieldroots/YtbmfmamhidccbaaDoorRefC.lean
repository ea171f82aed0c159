/-
  The reference's functions: minus.
-/
import Derived.Test.YtbmfmamhidccbaaDoorRefC0
namespace Go.Proofs.YtbmfmamhidccbaaDoor
open Go.RowKit Num

set_option linter.unusedVariables false in
set_option maxRecDepth 100000 in
set_option maxHeartbeats 2000000 in
theorem rminus_any (a b : Nat) (ha : a < 65536 ^ 16) (hb : b ≤ a) (w : World) : Calls Tryd.prog 44 #[rarr a, rarr b] w fun e w' => e = .returned (rarr (a - b)) ∧ Below w.heap.size w w' := by
  have H0 := HA.start w
  go_enter Tryd.func44, Tryd.ntmps44
  refine wp_seq ?_
  -- region 0
  refine wl_region ?_
  refine wl_make H0 30 (by kernel_rfl) (run_box30 (c := rl a) (by kernel_rfl)) ?_
  intro q1 w2 h3
  refine wl_make h3 30 (by kernel_rfl) (run_box30 (c := rl b) (by kernel_rfl)) ?_
  intro q4 w5 h6
  refine wl_make h6 30 (by kernel_rfl) run_alloc30 ?_
  intro q7 w8 h9
  refine wl_nil ?_
  refine then_at (F := ⟨(rarr a :: rarr b :: pt q1 :: pt q4 :: pt q7 :: List.replicate 25 un).toArray, []⟩) (by kernel_rfl) ?_
  refine wp_seq ?_
  -- region 1
  refine wl_region ?_
  refine wl_val (iN .u32 0) (by kernel_rfl) (by kernel_rfl) ?_
  refine wl_nil ?_
  refine then_at (F := ⟨(rarr a :: rarr b :: pt q1 :: pt q4 :: pt q7 :: iN .u32 0 :: List.replicate 24 un).toArray, []⟩) (by kernel_rfl) ?_
  refine wp_seq ?_
  refine wp_seq ?_
  -- region 2
  refine wl_region ?_
  refine wl_val (iN .i64 0) (by kernel_rfl) (by kernel_rfl) ?_
  refine wl_nil ?_
  refine then_at (F := ⟨(rarr a :: rarr b :: pt q1 :: pt q4 :: pt q7 :: iN .u32 0 :: iN .i64 0 :: List.replicate 23 un).toArray, []⟩) (by kernel_rfl) ?_
  refine wp_block ?_
  refine wp_count (fun k A w' => ∃ u : Nat → Value, A = ⟨(rarr a :: rarr b :: pt q1 :: pt q4 :: pt q7 :: iN .u32 (brr a b k) :: iN .i64 k :: u 7 :: u 8 :: u 9 :: u 10 :: u 11 :: u 12 :: u 13 :: u 14 :: u 15 :: u 16 :: u 17 :: u 18 :: u 19 :: u 20 :: u 21 :: u 22 :: u 23 :: u 24 :: u 25 :: u 26 :: u 27 :: u 28 :: List.replicate 1 un).toArray, []⟩ ∧ HA w [(q7, 30, rl 0), (q4, 30, rl b), (q1, 30, mc a b k)] w') 16 ?_ ?_ ?_
  · exact ⟨fun i => (([(7, undef), (8, undef), (9, undef), (10, undef), (11, undef), (12, undef), (13, undef), (14, undef), (15, undef), (16, undef), (17, undef), (18, undef), (19, undef), (20, undef), (21, undef), (22, undef), (23, undef), (24, undef), (25, undef), (26, undef), (27, undef), (28, undef)] : List (Nat × Value)).find? (·.1 == i)).elim undef (·.2), by kernel_rfl, h9⟩
  · rintro k hk _ w10 ⟨u, rfl, h11⟩
    have hc := bor16_le a b k
    have hx : a / 65536 ^ k % 65536 < 65536 := Nat.mod_lt _ (by decide)
    have hy : b / 65536 ^ k % 65536 < 65536 := Nat.mod_lt _ (by decide)
    have hd := dsub_lt a b k
    have hbb := dsub_bor a b k
    rw [← hbb]
    refine wp_seq ?_
    refine wp_seq ?_
    -- region 3
    refine wl_region ?_
    refine wl_val (iN .i64 k) (by kernel_rfl) (by kernel_rfl) ?_
    refine wl_val (.bool true) (by kernel_rfl) (run_lss (k := .i64) (a := k) (b := 16) (by kernel_rfl) (by kernel_rfl) true (decide_eq_true hk)) ?_
    refine wl_nil ?_
    refine then_at (F := ⟨(rarr a :: rarr b :: pt q1 :: pt q4 :: pt q7 :: iN .u32 (brr a b k) :: iN .i64 k :: u 7 :: iN .i64 k :: .bool true :: u 10 :: u 11 :: u 12 :: u 13 :: u 14 :: u 15 :: u 16 :: u 17 :: u 18 :: u 19 :: u 20 :: u 21 :: u 22 :: u 23 :: u 24 :: u 25 :: u 26 :: u 27 :: u 28 :: List.replicate 1 un).toArray, []⟩) (by kernel_rfl) ?_
    refine wp_cond_true (by kernel_rfl) ?_
    refine wp_skip ?_
    refine then_at (F := ⟨(rarr a :: rarr b :: pt q1 :: pt q4 :: pt q7 :: iN .u32 (brr a b k) :: iN .i64 k :: u 7 :: iN .i64 k :: .bool true :: u 10 :: u 11 :: u 12 :: u 13 :: u 14 :: u 15 :: u 16 :: u 17 :: u 18 :: u 19 :: u 20 :: u 21 :: u 22 :: u 23 :: u 24 :: u 25 :: u 26 :: u 27 :: u 28 :: List.replicate 1 un).toArray, []⟩) (by kernel_rfl) ?_
    refine wp_seq ?_
    refine wp_block ?_
    refine wp_seq ?_
    -- region 5
    refine wp_region_sure ⟨(rarr a :: rarr b :: pt q1 :: pt q4 :: pt q7 :: iN .u32 (brr a b k) :: iN .i64 k :: iN .u32 (dsub a b k) :: iN .i64 k :: .bool true :: u 10 :: u 11 :: iN .i64 k :: .pointer (some ⟨q1, k, none⟩) :: iN .u32 (a / 65536 ^ k % 65536) :: iN .u32 ((a / 65536 ^ k % 65536) + 65536) :: iN .i64 k :: .pointer (some ⟨q4, k, none⟩) :: iN .u32 (b / 65536 ^ k % 65536) :: iN .u32 (((a / 65536 ^ k % 65536) + 65536) - (b / 65536 ^ k % 65536)) :: iN .u32 (brr a b k) :: iN .u32 (dsub a b k) :: u 22 :: u 23 :: u 24 :: u 25 :: u 26 :: u 27 :: u 28 :: List.replicate 1 un).toArray, []⟩ (HA w [(q7, 30, rl 0), (q4, 30, rl b), (q1, 30, mc a b k)]) [iN .i64 k, .pointer (some ⟨q1, k, none⟩), iN .u32 (a / 65536 ^ k % 65536), iN .u32 ((a / 65536 ^ k % 65536) + 65536), iN .i64 k, .pointer (some ⟨q4, k, none⟩), iN .u32 (b / 65536 ^ k % 65536), iN .u32 (((a / 65536 ^ k % 65536) + 65536) - (b / 65536 ^ k % 65536)), iN .u32 (brr a b k), iN .u32 (dsub a b k), iN .u32 (dsub a b k)] (by kernel_rfl) (by kernel_rfl) (by kernel_rfl) (by kernel_rfl) (fun _ _ _ h => h) h11.drew ?_ ?_
    · refine AllSure.cons (OpSure.take (v := iN .i64 k) (by kernel_rfl) (by kernel_rfl) (fun _ _ => (by kernel_rfl))) ?_
      refine AllSure.cons (OpSure.take (v := .pointer (some ⟨q1, k, none⟩)) (by kernel_rfl) (by kernel_rfl) (fun _ _ => (run_addr_arr (q := q1) (a := k) Tryd.underlying30 (fun w => Tryd.sizeOf22 w) (by kernel_rfl) (by kernel_rfl) (by omega)))) ?_
      refine AllSure.cons (OpSure.take (v := iN .u32 (a / 65536 ^ k % 65536)) (by kernel_rfl) (by kernel_rfl) (fun _ h => run_load1 (fun w => Tryd.isAgg22 w) (by kernel_rfl) (((h.get 2 rfl).cell k).trans (mc_get a b k hk)))) ?_
      refine AllSure.cons (OpSure.take (v := iN .u32 ((a / 65536 ^ k % 65536) + 65536)) (by kernel_rfl) (by kernel_rfl) (fun _ _ => (run_add (k := .u32) (a := a / 65536 ^ k % 65536) (b := 65536) (by kernel_rfl) (by kernel_rfl) (by simp only [top]; omega)))) ?_
      refine AllSure.cons (OpSure.take (v := iN .i64 k) (by kernel_rfl) (by kernel_rfl) (fun _ _ => (by kernel_rfl))) ?_
      refine AllSure.cons (OpSure.take (v := .pointer (some ⟨q4, k, none⟩)) (by kernel_rfl) (by kernel_rfl) (fun _ _ => (run_addr_arr (q := q4) (a := k) Tryd.underlying30 (fun w => Tryd.sizeOf22 w) (by kernel_rfl) (by kernel_rfl) (by omega)))) ?_
      refine AllSure.cons (OpSure.take (v := iN .u32 (b / 65536 ^ k % 65536)) (by kernel_rfl) (by kernel_rfl) (fun _ h => run_load1 (fun w => Tryd.isAgg22 w) (by kernel_rfl) (((h.get 1 rfl).cell k).trans (rl_get b k (by omega))))) ?_
      refine AllSure.cons (OpSure.take (v := iN .u32 (((a / 65536 ^ k % 65536) + 65536) - (b / 65536 ^ k % 65536))) (by kernel_rfl) (by kernel_rfl) (fun _ _ => (run_sub (k := .u32) (a := (a / 65536 ^ k % 65536) + 65536) (b := b / 65536 ^ k % 65536) (by kernel_rfl) (by kernel_rfl) (by omega) (by simp only [top]; omega)))) ?_
      refine AllSure.cons (OpSure.take (v := iN .u32 (brr a b k)) (by kernel_rfl) (by kernel_rfl) (fun _ _ => (by kernel_rfl))) ?_
      refine AllSure.cons (OpSure.take (v := iN .u32 (dsub a b k)) (by kernel_rfl) (by kernel_rfl) (fun _ _ => (run_sub (k := .u32) (a := a / 65536 ^ k % 65536 + 65536 - b / 65536 ^ k % 65536) (b := brr a b k) (by kernel_rfl) (by kernel_rfl) (by omega) (by simp only [top]; omega)))) ?_
      refine AllSure.cons (OpSure.take (v := iN .u32 (dsub a b k)) (by kernel_rfl) (by kernel_rfl) (fun _ _ => (by kernel_rfl))) ?_
      exact AllSure.nil
    intro w12 h13
    refine then_at (F := ⟨(rarr a :: rarr b :: pt q1 :: pt q4 :: pt q7 :: iN .u32 (brr a b k) :: iN .i64 k :: iN .u32 (dsub a b k) :: iN .i64 k :: .bool true :: u 10 :: u 11 :: iN .i64 k :: .pointer (some ⟨q1, k, none⟩) :: iN .u32 (a / 65536 ^ k % 65536) :: iN .u32 ((a / 65536 ^ k % 65536) + 65536) :: iN .i64 k :: .pointer (some ⟨q4, k, none⟩) :: iN .u32 (b / 65536 ^ k % 65536) :: iN .u32 (((a / 65536 ^ k % 65536) + 65536) - (b / 65536 ^ k % 65536)) :: iN .u32 (brr a b k) :: iN .u32 (dsub a b k) :: u 22 :: u 23 :: u 24 :: u 25 :: u 26 :: u 27 :: u 28 :: List.replicate 1 un).toArray, []⟩) (by kernel_rfl) ?_
    refine wp_seq ?_
    -- region 6
    refine wl_region ?_
    refine wl_val (iN .i64 k) (by kernel_rfl) (by kernel_rfl) ?_
    refine wl_val (iN .u32 (dsub a b k)) (by kernel_rfl) (by kernel_rfl) ?_
    refine wl_val (iN .u32 (dsub a b k &&& 65535)) (by kernel_rfl) (run_and32 (a := dsub a b k) (b := 65535) (by kernel_rfl) (by kernel_rfl) (by omega) (by decide)) ?_
    refine wl_val (.pointer (some ⟨q1, k, none⟩)) (by kernel_rfl) (run_addr_arr (q := q1) (a := k) Tryd.underlying30 (fun w => Tryd.sizeOf22 w) (by kernel_rfl) (by kernel_rfl) (by omega)) ?_
    refine wl_put (k := .u32) (z := ((dsub a b k &&& 65535 : Nat) : Int)) h13 2 rfl k (by rw [mc_size a b k (by omega)]; exact hk) (by kernel_rfl) (fun w => Tryd.sizeOf22 w) (by kernel_rfl) (by kernel_rfl) ?_
    intro w14 h15
    have h16 : HA w [(q7, 30, rl 0), (q4, 30, rl b), (q1, 30, mc a b (k + 1))] w14 := (by rw [← mc_put a b k hk]; exact h15)
    clear h15
    refine wl_nil ?_
    refine then_at (F := ⟨(rarr a :: rarr b :: pt q1 :: pt q4 :: pt q7 :: iN .u32 (brr a b k) :: iN .i64 k :: iN .u32 (dsub a b k) :: iN .i64 k :: .bool true :: u 10 :: u 11 :: iN .i64 k :: .pointer (some ⟨q1, k, none⟩) :: iN .u32 (a / 65536 ^ k % 65536) :: iN .u32 ((a / 65536 ^ k % 65536) + 65536) :: iN .i64 k :: .pointer (some ⟨q4, k, none⟩) :: iN .u32 (b / 65536 ^ k % 65536) :: iN .u32 (((a / 65536 ^ k % 65536) + 65536) - (b / 65536 ^ k % 65536)) :: iN .u32 (brr a b k) :: iN .u32 (dsub a b k) :: iN .i64 k :: iN .u32 (dsub a b k) :: iN .u32 (dsub a b k &&& 65535) :: .pointer (some ⟨q1, k, none⟩) :: u 26 :: u 27 :: u 28 :: List.replicate 1 un).toArray, []⟩) (by kernel_rfl) ?_
    -- region 7
    refine wl_region ?_
    refine wl_val (iN .u32 (dsub a b k)) (by kernel_rfl) (by kernel_rfl) ?_
    refine wl_val (iN .u32 ((dsub a b k) / 2 ^ 16)) (by kernel_rfl) (run_shr (k2 := .u64) (k := .u32) (a := dsub a b k) (b := 16) (by kernel_rfl) (by kernel_rfl) (by decide)) ?_
    refine wl_val (iN .u32 (1 - ((dsub a b k) / 2 ^ 16))) (by kernel_rfl) (run_sub (k := .u32) (a := 1) (b := (dsub a b k) / 2 ^ 16) (by kernel_rfl) (by kernel_rfl) (by omega) (by simp only [top]; omega)) ?_
    refine wl_val (iN .u32 (1 - ((dsub a b k) / 2 ^ 16))) (by kernel_rfl) (by kernel_rfl) ?_
    refine wl_nil ?_
    refine block_normal ?_
    refine then_at (F := ⟨(rarr a :: rarr b :: pt q1 :: pt q4 :: pt q7 :: iN .u32 (1 - ((dsub a b k) / 2 ^ 16)) :: iN .i64 k :: iN .u32 (dsub a b k) :: iN .i64 k :: .bool true :: u 10 :: u 11 :: iN .i64 k :: .pointer (some ⟨q1, k, none⟩) :: iN .u32 (a / 65536 ^ k % 65536) :: iN .u32 ((a / 65536 ^ k % 65536) + 65536) :: iN .i64 k :: .pointer (some ⟨q4, k, none⟩) :: iN .u32 (b / 65536 ^ k % 65536) :: iN .u32 (((a / 65536 ^ k % 65536) + 65536) - (b / 65536 ^ k % 65536)) :: iN .u32 (brr a b k) :: iN .u32 (dsub a b k) :: iN .i64 k :: iN .u32 (dsub a b k) :: iN .u32 (dsub a b k &&& 65535) :: .pointer (some ⟨q1, k, none⟩) :: iN .u32 (dsub a b k) :: iN .u32 ((dsub a b k) / 2 ^ 16) :: iN .u32 (1 - ((dsub a b k) / 2 ^ 16)) :: List.replicate 1 un).toArray, []⟩) (by kernel_rfl) ?_
    -- region 4
    refine wl_region ?_
    refine wl_val (iN .i64 k) (by kernel_rfl) (by kernel_rfl) ?_
    refine wl_val (iN .i64 (k + 1)) (by kernel_rfl) (run_add (k := .i64) (a := k) (b := 1) (by kernel_rfl) (by kernel_rfl) (by simp only [top]; omega)) ?_
    refine wl_val (iN .i64 (k + 1)) (by kernel_rfl) (by kernel_rfl) ?_
    refine wl_nil ?_
    exact then_I ⟨fun i => (([(7, iN .u32 (dsub a b k)), (8, iN .i64 k), (9, .bool true), (10, iN .i64 k), (11, iN .i64 (k + 1)), (12, iN .i64 k), (13, .pointer (some ⟨q1, k, none⟩)), (14, iN .u32 (a / 65536 ^ k % 65536)), (15, iN .u32 ((a / 65536 ^ k % 65536) + 65536)), (16, iN .i64 k), (17, .pointer (some ⟨q4, k, none⟩)), (18, iN .u32 (b / 65536 ^ k % 65536)), (19, iN .u32 (((a / 65536 ^ k % 65536) + 65536) - (b / 65536 ^ k % 65536))), (20, iN .u32 (brr a b k)), (21, iN .u32 (dsub a b k)), (22, iN .i64 k), (23, iN .u32 (dsub a b k)), (24, iN .u32 (dsub a b k &&& 65535)), (25, .pointer (some ⟨q1, k, none⟩)), (26, iN .u32 (dsub a b k)), (27, iN .u32 ((dsub a b k) / 2 ^ 16)), (28, iN .u32 (1 - ((dsub a b k) / 2 ^ 16)))] : List (Nat × Value)).find? (·.1 == i)).elim undef (·.2), by kernel_rfl, h16⟩
  · rintro _ w17 ⟨u, rfl, h18⟩
    refine wp_seq ?_
    refine wp_seq ?_
    -- region 3
    refine wl_region ?_
    refine wl_val (iN .i64 16) (by kernel_rfl) (by kernel_rfl) ?_
    refine wl_val (.bool false) (by kernel_rfl) (run_lss (k := .i64) (a := 16) (b := 16) (by kernel_rfl) (by kernel_rfl) false (by decide)) ?_
    refine wl_nil ?_
    refine then_at (F := ⟨(rarr a :: rarr b :: pt q1 :: pt q4 :: pt q7 :: iN .u32 (brr a b 16) :: iN .i64 16 :: u 7 :: iN .i64 16 :: .bool false :: u 10 :: u 11 :: u 12 :: u 13 :: u 14 :: u 15 :: u 16 :: u 17 :: u 18 :: u 19 :: u 20 :: u 21 :: u 22 :: u 23 :: u 24 :: u 25 :: u 26 :: u 27 :: u 28 :: List.replicate 1 un).toArray, []⟩) (by kernel_rfl) ?_
    refine wp_cond_false (by kernel_rfl) ?_
    refine wp_exit ?_
    repeat first | refine then_exit ?_ | refine block_exit ?_ | refine block_exit_ne (by decide) ?_
    have h19 : HA w [(q7, 30, rl 0), (q4, 30, rl b), (q1, 30, rl (a - b))] w17 := by rw [← mc_end a b ha hb]; exact h18
    refine then_at (F := ⟨(rarr a :: rarr b :: pt q1 :: pt q4 :: pt q7 :: iN .u32 (brr a b 16) :: iN .i64 16 :: u 7 :: iN .i64 16 :: .bool false :: u 10 :: u 11 :: u 12 :: u 13 :: u 14 :: u 15 :: u 16 :: u 17 :: u 18 :: u 19 :: u 20 :: u 21 :: u 22 :: u 23 :: u 24 :: u 25 :: u 26 :: u 27 :: u 28 :: List.replicate 1 un).toArray, []⟩) (by kernel_rfl) ?_
    refine wp_seq ?_
    -- region 8
    refine wl_region ?_
    refine wl_load h19 2 rfl (by kernel_rfl) (by kernel_rfl) Tryd.underlying30 rfl (info_rl _) ?_
    refine wl_fill (c' := rl (a - b)) h19 0 rfl (by kernel_rfl) (by kernel_rfl) (by kernel_rfl) (rl_sz _ _) (info_rl _) (one_rl _) ?_
    intro w20 (h21 : HA w [(q7, 30, rl (a - b)), (q4, 30, rl b), (q1, 30, rl (a - b))] w20)
    refine wl_nil ?_
    refine then_at (F := ⟨(rarr a :: rarr b :: pt q1 :: pt q4 :: pt q7 :: iN .u32 (brr a b 16) :: iN .i64 16 :: u 7 :: iN .i64 16 :: .bool false :: u 10 :: u 11 :: u 12 :: u 13 :: u 14 :: u 15 :: u 16 :: u 17 :: u 18 :: u 19 :: u 20 :: u 21 :: u 22 :: u 23 :: u 24 :: u 25 :: u 26 :: u 27 :: u 28 :: rarr (a - b) :: List.replicate 0 un).toArray, []⟩) (by kernel_rfl) ?_
    refine wp_ret ?_
    repeat first | refine then_ret ?_ | refine block_ret ?_
    exact bodyPost_ret (v := rarr (a - b)) (res_cell (p := 4) (by kernel_rfl) (by kernel_rfl) (h21.get 0 rfl) Tryd.underlying30 rfl (info_rl _)) rfl ⟨rfl, h21.old⟩
end Go.Proofs.YtbmfmamhidccbaaDoor
