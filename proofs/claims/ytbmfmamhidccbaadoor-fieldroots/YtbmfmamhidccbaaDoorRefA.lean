/-
  The reference's functions: prime, less, Odd, Small.
-/
import Derived.Test.YtbmfmamhidccbaaDoorOps2
namespace Go.Proofs.YtbmfmamhidccbaaDoor
open Go.RowKit Num

set_option linter.unusedVariables false in
set_option maxRecDepth 100000 in
set_option maxHeartbeats 2000000 in
theorem rprime_any (w : World) : Calls Tryd.prog 38 #[] w fun e w' => e = .returned (rarr P) ∧ Below w.heap.size w w' := by
  have H0 := HA.start w
  go_enter Tryd.func38, Tryd.ntmps38
  refine wp_seq ?_
  -- region 0
  refine wl_region ?_
  refine wl_make H0 30 (by kernel_rfl) run_alloc30 ?_
  intro q1 w2 h3
  refine wl_nil ?_
  refine then_at (F := ⟨(pt q1 :: List.replicate 11 un).toArray, []⟩) (by kernel_rfl) ?_
  refine wp_seq ?_
  -- region 1
  refine wl_region ?_
  refine wl_make h3 30 (by kernel_rfl) run_alloc30 ?_
  intro q4 w5 h6
  refine wl_nil ?_
  refine then_at (F := ⟨(pt q1 :: pt q4 :: List.replicate 10 un).toArray, []⟩) (by kernel_rfl) ?_
  refine wp_seq ?_
  refine wp_seq ?_
  -- region 2
  refine wl_region ?_
  refine wl_val (iN .i64 0) (by kernel_rfl) (by kernel_rfl) ?_
  refine wl_nil ?_
  refine then_at (F := ⟨(pt q1 :: pt q4 :: iN .i64 0 :: List.replicate 9 un).toArray, []⟩) (by kernel_rfl) ?_
  refine wp_block ?_
  refine wp_count (fun k A w' => ∃ u : Nat → Value, A = ⟨(pt q1 :: pt q4 :: iN .i64 k :: u 3 :: u 4 :: u 5 :: u 6 :: u 7 :: u 8 :: List.replicate 3 un).toArray, []⟩ ∧ HA w [(q4, 30, rl (65536 ^ k - 1)), (q1, 30, rl 0)] w') 16 ?_ ?_ ?_
  · exact ⟨fun ii => (([(3, undef), (4, undef), (5, undef), (6, undef), (7, undef), (8, undef)] : List (Nat × Value)).find? (·.1 == ii)).elim undef (·.2), by kernel_rfl, h6⟩
  · rintro k hk _ w7 ⟨u, rfl, h8⟩
    refine wp_seq ?_
    refine wp_seq ?_
    -- region 3
    refine wl_region ?_
    refine wl_val (iN .i64 k) (by kernel_rfl) (by kernel_rfl) ?_
    refine wl_val (.bool true) (by kernel_rfl) (run_lss (k := .i64) (a := k) (b := 16) (by kernel_rfl) (by kernel_rfl) true (decide_eq_true hk)) ?_
    refine wl_nil ?_
    refine then_at (F := ⟨(pt q1 :: pt q4 :: iN .i64 k :: iN .i64 k :: .bool true :: u 5 :: u 6 :: u 7 :: u 8 :: List.replicate 3 un).toArray, []⟩) (by kernel_rfl) ?_
    refine wp_cond_true (by kernel_rfl) ?_
    refine wp_skip ?_
    refine then_at (F := ⟨(pt q1 :: pt q4 :: iN .i64 k :: iN .i64 k :: .bool true :: u 5 :: u 6 :: u 7 :: u 8 :: List.replicate 3 un).toArray, []⟩) (by kernel_rfl) ?_
    refine wp_seq ?_
    refine wp_block ?_
    -- region 5
    refine wl_region ?_
    refine wl_val (iN .i64 k) (by kernel_rfl) (by kernel_rfl) ?_
    refine wl_val (.pointer (some ⟨q4, k, none⟩)) (by kernel_rfl) (run_addr_arr (q := q4) (a := k) Tryd.underlying30 (fun w => Tryd.sizeOf22 w) (by kernel_rfl) (by kernel_rfl) (by omega)) ?_
    refine wl_put (k := .u32) (z := ((65535 : Nat) : Int)) h8 0 rfl k (by rw [rl_size]; exact hk) (by kernel_rfl) (fun w => Tryd.sizeOf22 w) (by kernel_rfl) (by kernel_rfl) ?_
    intro w9 h10
    have h11 : HA w [(q4, 30, rl (65536 ^ (k + 1) - 1)), (q1, 30, rl 0)] w9 := (by rw [← prime_grow k, ← rl_put (65536 ^ k - 1) k 65535 (Nat.sub_lt (Nat.pow_pos (by decide)) (by decide)) hk (by decide)]; exact h10)
    clear h10
    refine wl_nil ?_
    refine block_normal ?_
    refine then_at (F := ⟨(pt q1 :: pt q4 :: iN .i64 k :: iN .i64 k :: .bool true :: u 5 :: u 6 :: iN .i64 k :: .pointer (some ⟨q4, k, none⟩) :: List.replicate 3 un).toArray, []⟩) (by kernel_rfl) ?_
    -- region 4
    refine wl_region ?_
    refine wl_val (iN .i64 k) (by kernel_rfl) (by kernel_rfl) ?_
    refine wl_val (iN .i64 (k + 1)) (by kernel_rfl) (run_add (k := .i64) (a := k) (b := 1) (by kernel_rfl) (by kernel_rfl) (by simp only [top]; omega)) ?_
    refine wl_val (iN .i64 (k + 1)) (by kernel_rfl) (by kernel_rfl) ?_
    refine wl_nil ?_
    exact then_I ⟨fun ii => (([(3, iN .i64 k), (4, .bool true), (5, iN .i64 k), (6, iN .i64 (k + 1)), (7, iN .i64 k), (8, .pointer (some ⟨q4, k, none⟩))] : List (Nat × Value)).find? (·.1 == ii)).elim undef (·.2), by kernel_rfl, h11⟩
  · rintro _ w12 ⟨u, rfl, h13⟩
    refine wp_seq ?_
    refine wp_seq ?_
    -- region 3
    refine wl_region ?_
    refine wl_val (iN .i64 16) (by kernel_rfl) (by kernel_rfl) ?_
    refine wl_val (.bool false) (by kernel_rfl) (run_lss (k := .i64) (a := 16) (b := 16) (by kernel_rfl) (by kernel_rfl) false (by decide)) ?_
    refine wl_nil ?_
    refine then_at (F := ⟨(pt q1 :: pt q4 :: iN .i64 16 :: iN .i64 16 :: .bool false :: u 5 :: u 6 :: u 7 :: u 8 :: List.replicate 3 un).toArray, []⟩) (by kernel_rfl) ?_
    refine wp_cond_false (by kernel_rfl) ?_
    refine wp_exit ?_
    repeat first | refine then_exit ?_ | refine block_exit ?_ | refine block_exit_ne (by decide) ?_
    refine then_at (F := ⟨(pt q1 :: pt q4 :: iN .i64 16 :: iN .i64 16 :: .bool false :: u 5 :: u 6 :: u 7 :: u 8 :: List.replicate 3 un).toArray, []⟩) (by kernel_rfl) ?_
    refine wp_seq ?_
    -- region 6
    refine wl_region ?_
    refine wl_val (.pointer (some ⟨q4, 0, none⟩)) (by kernel_rfl) (run_addr_arr (q := q4) (a := 0) Tryd.underlying30 (fun w => Tryd.sizeOf22 w) (by kernel_rfl) (by kernel_rfl) (by decide)) ?_
    refine wl_put (k := .u32) (z := ((65517 : Nat) : Int)) h13 0 rfl 0 (by decide) (by kernel_rfl) (fun w => Tryd.sizeOf22 w) (by kernel_rfl) (by kernel_rfl) ?_
    intro w14 h15
    have h16 : HA w [(q4, 30, (rl (65536 ^ 16 - 1)).setIfInBounds 0 (iN .u32 65517)), (q1, 30, rl 0)] w14 := h15
    clear h15
    refine wl_nil ?_
    refine then_at (F := ⟨(pt q1 :: pt q4 :: iN .i64 16 :: iN .i64 16 :: .bool false :: u 5 :: u 6 :: u 7 :: u 8 :: pt q4 :: List.replicate 2 un).toArray, []⟩) (by kernel_rfl) ?_
    refine wp_seq ?_
    -- region 7
    refine wl_region ?_
    refine wl_val (.pointer (some ⟨q4, 15, none⟩)) (by kernel_rfl) (run_addr_arr (q := q4) (a := 15) Tryd.underlying30 (fun w => Tryd.sizeOf22 w) (by kernel_rfl) (by kernel_rfl) (by decide)) ?_
    refine wl_put (k := .u32) (z := ((32767 : Nat) : Int)) h16 0 rfl 15 (by decide) (by kernel_rfl) (fun w => Tryd.sizeOf22 w) (by kernel_rfl) (by kernel_rfl) ?_
    intro w17 h18
    have h19 : HA w [(q4, 30, rl P), (q1, 30, rl 0)] w17 := (by rw [← prime_cells]; exact h18)
    clear h18
    refine wl_nil ?_
    refine then_at (F := ⟨(pt q1 :: pt q4 :: iN .i64 16 :: iN .i64 16 :: .bool false :: u 5 :: u 6 :: u 7 :: u 8 :: pt q4 :: .pointer (some ⟨q4, 15, none⟩) :: List.replicate 1 un).toArray, []⟩) (by kernel_rfl) ?_
    refine wp_seq ?_
    -- region 8
    refine wl_region ?_
    refine wl_load h19 0 rfl (by kernel_rfl) (by kernel_rfl) Tryd.underlying30 rfl (info_rl _) ?_
    refine wl_fill (c' := rl P) h19 1 rfl (by kernel_rfl) (by kernel_rfl) (by kernel_rfl) (rl_sz _ _) (info_rl _) (one_rl _) ?_
    intro w20 (h21 : HA w [(q4, 30, rl P), (q1, 30, rl P)] w20)
    refine wl_nil ?_
    refine then_at (F := ⟨(pt q1 :: pt q4 :: iN .i64 16 :: iN .i64 16 :: .bool false :: u 5 :: u 6 :: u 7 :: u 8 :: pt q4 :: .pointer (some ⟨q4, 15, none⟩) :: rarr P :: List.replicate 0 un).toArray, []⟩) (by kernel_rfl) ?_
    refine wp_ret ?_
    repeat first | refine then_ret ?_ | refine block_ret ?_
    exact bodyPost_ret (v := rarr P) (res_cell (p := 0) (by kernel_rfl) (by kernel_rfl) (h21.get 1 rfl) Tryd.underlying30 rfl (info_rl _)) rfl ⟨rfl, h21.old⟩

theorem odd16 (n : Nat) : decide (n / 65536 ^ 0 % 65536 % 2 = 1) = decide (n % 2 = 1) := by
  rw [Nat.pow_zero, Nat.div_one]
  congr 1
  rw [Nat.mod_mod_of_dvd _ (by decide)]

set_option linter.unusedVariables false in
set_option maxRecDepth 100000 in
set_option maxHeartbeats 2000000 in
theorem rodd_any (n : Nat) (w : World) : Calls Tryd.prog 16 #[rarr n] w fun e w' => e = .returned (.bool (decide (n % 2 = 1))) ∧ Below w.heap.size w w' := by
  have H0 := HA.start w
  go_enter Tryd.func16, Tryd.ntmps16
  refine wp_seq ?_
  -- region 0
  refine wl_region ?_
  refine wl_make H0 30 (by kernel_rfl) (run_box30 (c := rl n) (by kernel_rfl)) ?_
  intro q1 w2 h3
  refine wl_val (.bool false) (by kernel_rfl) (by kernel_rfl) ?_
  refine wl_nil ?_
  refine then_at (F := ⟨(rarr n :: pt q1 :: .bool false :: List.replicate 4 un).toArray, []⟩) (by kernel_rfl) ?_
  refine wp_seq ?_
  -- region 1
  refine wl_region ?_
  refine wl_val (.pointer (some ⟨q1, 0, none⟩)) (by kernel_rfl) (run_addr_arr (q := q1) (a := 0) Tryd.underlying30 (fun w => Tryd.sizeOf22 w) (by kernel_rfl) (by kernel_rfl) (by decide)) ?_
  refine wl_val (iN .u32 (n / 65536 ^ 0 % 65536)) (by kernel_rfl) (run_load1 (fun w => Tryd.isAgg22 w) (by kernel_rfl) (((h3.get 0 rfl).cell 0).trans (rl_get n 0 (by decide)))) ?_
  refine wl_val (iN .u32 ((n / 65536 ^ 0 % 65536) % 2)) (by kernel_rfl) (run_rem (k := .u32) (a := n / 65536 ^ 0 % 65536) (b := 2) (by kernel_rfl) (by kernel_rfl) (by omega)) ?_
  refine wl_val (.bool (decide ((n / 65536 ^ 0 % 65536) % 2 = 1))) (by kernel_rfl) (run_eqi (k := .u32) (a := (n / 65536 ^ 0 % 65536) % 2) (b := 1) (by kernel_rfl) (by kernel_rfl) _ rfl) ?_
  refine wl_val (.bool (decide ((n / 65536 ^ 0 % 65536) % 2 = 1))) (by kernel_rfl) (by kernel_rfl) ?_
  refine wl_nil ?_
  refine then_at (F := ⟨(rarr n :: pt q1 :: .bool (decide ((n / 65536 ^ 0 % 65536) % 2 = 1)) :: pt q1 :: iN .u32 (n / 65536 ^ 0 % 65536) :: iN .u32 ((n / 65536 ^ 0 % 65536) % 2) :: .bool (decide ((n / 65536 ^ 0 % 65536) % 2 = 1)) :: List.replicate 0 un).toArray, []⟩) (by kernel_rfl) ?_
  refine wp_ret ?_
  repeat first | refine then_ret ?_ | refine block_ret ?_
  exact bodyPost_ret (v := .bool (decide (n / 65536 ^ 0 % 65536 % 2 = 1))) (by kernel_rfl) rfl ⟨by rw [odd16], h3.old⟩

theorem and16 (n : Nat) : n &&& 65535 = n % 65536 := Nat.and_two_pow_sub_one_eq_mod n 16
theorem small16 (n : Nat) : (n &&& 65535) + n / 2 ^ 16 * 65536 = n := by rw [and16]; omega

set_option linter.unusedVariables false in
set_option maxRecDepth 100000 in
set_option maxHeartbeats 2000000 in
theorem rsmall_any (n : Nat) (hn : n < 4294967296) (w : World) : Calls Tryd.prog 18 #[iN .u32 n] w fun e w' => e = .returned (rarr n) ∧ Below w.heap.size w w' := by
  have H0 := HA.start w
  go_enter Tryd.func18, Tryd.ntmps18
  refine wp_seq ?_
  -- region 0
  refine wl_region ?_
  refine wl_make H0 30 (by kernel_rfl) run_alloc30 ?_
  intro q1 w2 h3
  refine wl_nil ?_
  refine then_at (F := ⟨(iN .u32 n :: un :: pt q1 :: List.replicate 5 un).toArray, []⟩) (by kernel_rfl) ?_
  refine wp_seq ?_
  -- region 1
  refine wl_region ?_
  refine wl_val (iN .u32 n) (by kernel_rfl) (by kernel_rfl) ?_
  refine wl_val (iN .u32 (n &&& 65535)) (by kernel_rfl) (run_and32 (a := n) (b := 65535) (by kernel_rfl) (by kernel_rfl) (by omega) (by decide)) ?_
  refine wl_val (iN .u32 n) (by kernel_rfl) (by kernel_rfl) ?_
  refine wl_val (iN .u32 (n / 2 ^ 16)) (by kernel_rfl) (run_shr (k2 := .u64) (k := .u32) (a := n) (b := 16) (by kernel_rfl) (by kernel_rfl) (by decide)) ?_
  refine wl_val (rarr ((n &&& 65535) + n / 2 ^ 16 * 65536)) (by kernel_rfl) (run_build2 (a := n &&& 65535) (b := n / 2 ^ 16) (by kernel_rfl) (by kernel_rfl) (by rw [and16]; omega) (by omega)) ?_
  refine wl_fill (c' := rl ((n &&& 65535) + n / 2 ^ 16 * 65536)) h3 0 rfl (by kernel_rfl) (by kernel_rfl) (by kernel_rfl) (rl_sz _ _) (info_rl _) (one_rl _) ?_
  intro w4 (h5 : HA w [(q1, 30, rl ((n &&& 65535) + n / 2 ^ 16 * 65536))] w4)
  refine wl_nil ?_
  refine then_at (F := ⟨(iN .u32 n :: un :: pt q1 :: iN .u32 n :: iN .u32 (n &&& 65535) :: iN .u32 n :: iN .u32 (n / 2 ^ 16) :: rarr ((n &&& 65535) + n / 2 ^ 16 * 65536) :: List.replicate 0 un).toArray, []⟩) (by kernel_rfl) ?_
  refine wp_ret ?_
  repeat first | refine then_ret ?_ | refine block_ret ?_
  exact bodyPost_ret (v := rarr ((n &&& 65535) + n / 2 ^ 16 * 65536)) (res_cell (p := 2) (by kernel_rfl) (by kernel_rfl) (h5.get 0 rfl) Tryd.underlying30 rfl (info_rl _)) rfl ⟨by rw [small16], h5.old⟩

theorem less_start {a b : Nat} (ha : a < 65536 ^ 16) (hb : b < 65536 ^ 16) : a / 65536 ^ (16 - 0) = b / 65536 ^ (16 - 0) := by
  rw [Nat.sub_zero, Nat.div_eq_of_lt ha, Nat.div_eq_of_lt hb]
theorem less_end {a b : Nat} (h : a / 65536 ^ (16 - 16) = b / 65536 ^ (16 - 16)) : ¬ a < b := by
  rw [Nat.sub_self, Nat.pow_zero, Nat.div_one, Nat.div_one] at h
  omega

set_option linter.unusedVariables false in
set_option maxRecDepth 100000 in
set_option maxHeartbeats 2000000 in
theorem rless_any (a b : Nat) (ha : a < 65536 ^ 16) (hb : b < 65536 ^ 16) (w : World) : Calls Tryd.prog 37 #[rarr a, rarr b] w fun e w' => e = .returned (.bool (decide (a < b))) ∧ Below w.heap.size w w' := by
  have H0 := HA.start w
  go_enter Tryd.func37, Tryd.ntmps37
  refine wp_seq ?_
  -- region 0
  refine wl_region ?_
  refine wl_make H0 30 (by kernel_rfl) (run_box30 (c := rl a) (by kernel_rfl)) ?_
  intro q1 w2 h3
  refine wl_make h3 30 (by kernel_rfl) (run_box30 (c := rl b) (by kernel_rfl)) ?_
  intro q4 w5 h6
  refine wl_val (.bool false) (by kernel_rfl) (by kernel_rfl) ?_
  refine wl_nil ?_
  refine then_at (F := ⟨(rarr a :: rarr b :: pt q1 :: pt q4 :: .bool false :: List.replicate 19 un).toArray, []⟩) (by kernel_rfl) ?_
  refine wp_seq ?_
  refine wp_seq ?_
  -- region 1
  refine wl_region ?_
  refine wl_val (iN .i64 15) (by kernel_rfl) (by kernel_rfl) ?_
  refine wl_nil ?_
  refine then_at (F := ⟨(rarr a :: rarr b :: pt q1 :: pt q4 :: .bool false :: iN .i64 15 :: List.replicate 18 un).toArray, []⟩) (by kernel_rfl) ?_
  refine wp_block ?_
  refine wp_count (fun k A w' => ∃ u : Nat → Value, A = ⟨(rarr a :: rarr b :: pt q1 :: pt q4 :: u 4 :: dnv (16 - k) :: u 6 :: u 7 :: u 8 :: u 9 :: u 10 :: u 11 :: u 12 :: u 13 :: u 14 :: u 15 :: u 16 :: u 17 :: u 18 :: u 19 :: u 20 :: u 21 :: u 22 :: u 23 :: List.replicate 0 un).toArray, []⟩ ∧ HA w [(q4, 30, rl b), (q1, 30, rl a)] w' ∧ a / 65536 ^ (16 - k) = b / 65536 ^ (16 - k)) 16 ?_ ?_ ?_
  · exact ⟨fun ii => (([(4, .bool false), (6, undef), (7, undef), (8, undef), (9, undef), (10, undef), (11, undef), (12, undef), (13, undef), (14, undef), (15, undef), (16, undef), (17, undef), (18, undef), (19, undef), (20, undef), (21, undef), (22, undef), (23, undef)] : List (Nat × Value)).find? (·.1 == ii)).elim undef (·.2), by kernel_rfl, h6, less_start ha hb⟩
  · rintro k hk _ w7 ⟨u, rfl, h8, hp⟩
    obtain ⟨j, hj, ej⟩ : ∃ j, j < 16 ∧ 16 - k = j + 1 := ⟨15 - k, by omega, by omega⟩
    have ej2 : 16 - (k + 1) = j := by omega
    rw [ej] at hp
    rw [ej, ej2]
    have hs := less_step 65536 a b j hp
    by_cases hxy : a / 65536 ^ j % 65536 = b / 65536 ^ j % 65536
    · refine wp_seq ?_
      refine wp_seq ?_
      -- region 2
      refine wl_region ?_
      refine wl_val (iN .i64 j) (by kernel_rfl) (by kernel_rfl) ?_
      refine wl_val (.bool true) (by kernel_rfl) (run_geq0 (k := .i64) (a := ((j : Nat) : Int)) (b := 0) (by kernel_rfl) (by kernel_rfl) true (decide_eq_true (by omega))) ?_
      refine wl_nil ?_
      refine then_at (F := ⟨(rarr a :: rarr b :: pt q1 :: pt q4 :: u 4 :: iN .i64 j :: iN .i64 j :: .bool true :: u 8 :: u 9 :: u 10 :: u 11 :: u 12 :: u 13 :: u 14 :: u 15 :: u 16 :: u 17 :: u 18 :: u 19 :: u 20 :: u 21 :: u 22 :: u 23 :: List.replicate 0 un).toArray, []⟩) (by kernel_rfl) ?_
      refine wp_cond_true (by kernel_rfl) ?_
      refine wp_skip ?_
      refine then_at (F := ⟨(rarr a :: rarr b :: pt q1 :: pt q4 :: u 4 :: iN .i64 j :: iN .i64 j :: .bool true :: u 8 :: u 9 :: u 10 :: u 11 :: u 12 :: u 13 :: u 14 :: u 15 :: u 16 :: u 17 :: u 18 :: u 19 :: u 20 :: u 21 :: u 22 :: u 23 :: List.replicate 0 un).toArray, []⟩) (by kernel_rfl) ?_
      refine wp_seq ?_
      refine wp_block ?_
      refine wp_seq ?_
      -- region 4
      refine wp_region_sure ⟨(rarr a :: rarr b :: pt q1 :: pt q4 :: u 4 :: iN .i64 j :: iN .i64 j :: .bool true :: u 8 :: u 9 :: iN .i64 j :: .pointer (some ⟨q1, j, none⟩) :: iN .u32 (a / 65536 ^ j % 65536) :: iN .i64 j :: .pointer (some ⟨q4, j, none⟩) :: iN .u32 (b / 65536 ^ j % 65536) :: .bool false :: u 17 :: u 18 :: u 19 :: u 20 :: u 21 :: u 22 :: u 23 :: List.replicate 0 un).toArray, []⟩ (HA w [(q4, 30, rl b), (q1, 30, rl a)]) [iN .i64 j, .pointer (some ⟨q1, j, none⟩), iN .u32 (a / 65536 ^ j % 65536), iN .i64 j, .pointer (some ⟨q4, j, none⟩), iN .u32 (b / 65536 ^ j % 65536), .bool false] (by kernel_rfl) (by kernel_rfl) (by kernel_rfl) (by kernel_rfl) (fun _ _ _ h => h) h8.drew ?_ ?_
      · refine AllSure.cons (OpSure.take (v := iN .i64 j) (by kernel_rfl) (by kernel_rfl) (fun _ _ => (by kernel_rfl))) ?_
        refine AllSure.cons (OpSure.take (v := .pointer (some ⟨q1, j, none⟩)) (by kernel_rfl) (by kernel_rfl) (fun _ _ => (run_addr_arr (q := q1) (a := j) Tryd.underlying30 (fun w => Tryd.sizeOf22 w) (by kernel_rfl) (by kernel_rfl) (by omega)))) ?_
        refine AllSure.cons (OpSure.take (v := iN .u32 (a / 65536 ^ j % 65536)) (by kernel_rfl) (by kernel_rfl) (fun _ h => run_load1 (fun w => Tryd.isAgg22 w) (by kernel_rfl) (((h.get 1 rfl).cell j).trans (rl_get a j (by omega))))) ?_
        refine AllSure.cons (OpSure.take (v := iN .i64 j) (by kernel_rfl) (by kernel_rfl) (fun _ _ => (by kernel_rfl))) ?_
        refine AllSure.cons (OpSure.take (v := .pointer (some ⟨q4, j, none⟩)) (by kernel_rfl) (by kernel_rfl) (fun _ _ => (run_addr_arr (q := q4) (a := j) Tryd.underlying30 (fun w => Tryd.sizeOf22 w) (by kernel_rfl) (by kernel_rfl) (by omega)))) ?_
        refine AllSure.cons (OpSure.take (v := iN .u32 (b / 65536 ^ j % 65536)) (by kernel_rfl) (by kernel_rfl) (fun _ h => run_load1 (fun w => Tryd.isAgg22 w) (by kernel_rfl) (((h.get 0 rfl).cell j).trans (rl_get b j (by omega))))) ?_
        refine AllSure.cons (OpSure.take (v := .bool false) (by kernel_rfl) (by kernel_rfl) (fun _ _ => (run_nei (k := .u32) (a := a / 65536 ^ j % 65536) (b := b / 65536 ^ j % 65536) (by kernel_rfl) (by kernel_rfl) false (by rw [decide_eq_false]; exact fun h => h hxy)))) ?_
        exact AllSure.nil
      intro w9 h10
      refine then_at (F := ⟨(rarr a :: rarr b :: pt q1 :: pt q4 :: u 4 :: iN .i64 j :: iN .i64 j :: .bool true :: u 8 :: u 9 :: iN .i64 j :: .pointer (some ⟨q1, j, none⟩) :: iN .u32 (a / 65536 ^ j % 65536) :: iN .i64 j :: .pointer (some ⟨q4, j, none⟩) :: iN .u32 (b / 65536 ^ j % 65536) :: .bool false :: u 17 :: u 18 :: u 19 :: u 20 :: u 21 :: u 22 :: u 23 :: List.replicate 0 un).toArray, []⟩) (by kernel_rfl) ?_
      refine wp_cond_false (by kernel_rfl) ?_
      refine wp_skip ?_
      refine block_normal ?_
      refine then_at (F := ⟨(rarr a :: rarr b :: pt q1 :: pt q4 :: u 4 :: iN .i64 j :: iN .i64 j :: .bool true :: u 8 :: u 9 :: iN .i64 j :: .pointer (some ⟨q1, j, none⟩) :: iN .u32 (a / 65536 ^ j % 65536) :: iN .i64 j :: .pointer (some ⟨q4, j, none⟩) :: iN .u32 (b / 65536 ^ j % 65536) :: .bool false :: u 17 :: u 18 :: u 19 :: u 20 :: u 21 :: u 22 :: u 23 :: List.replicate 0 un).toArray, []⟩) (by kernel_rfl) ?_
      -- region 3
      refine wl_region ?_
      refine wl_val (iN .i64 j) (by kernel_rfl) (by kernel_rfl) ?_
      refine wl_val (dnv j) (by kernel_rfl) (run_dec (j := j) (by omega) (by kernel_rfl) (by kernel_rfl)) ?_
      refine wl_val (dnv j) (by kernel_rfl) (by kernel_rfl) ?_
      refine wl_nil ?_
      exact then_I ⟨fun ii => (([(4, u 4), (6, iN .i64 j), (7, .bool true), (8, iN .i64 j), (9, dnv j), (10, iN .i64 j), (11, .pointer (some ⟨q1, j, none⟩)), (12, iN .u32 (a / 65536 ^ j % 65536)), (13, iN .i64 j), (14, .pointer (some ⟨q4, j, none⟩)), (15, iN .u32 (b / 65536 ^ j % 65536)), (16, .bool false), (17, u 17), (18, u 18), (19, u 19), (20, u 20), (21, u 21), (22, u 22), (23, u 23)] : List (Nat × Value)).find? (·.1 == ii)).elim undef (·.2), by kernel_rfl, h10, hs.1 hxy⟩
    · refine wp_seq ?_
      refine wp_seq ?_
      -- region 2
      refine wl_region ?_
      refine wl_val (iN .i64 j) (by kernel_rfl) (by kernel_rfl) ?_
      refine wl_val (.bool true) (by kernel_rfl) (run_geq0 (k := .i64) (a := ((j : Nat) : Int)) (b := 0) (by kernel_rfl) (by kernel_rfl) true (decide_eq_true (by omega))) ?_
      refine wl_nil ?_
      refine then_at (F := ⟨(rarr a :: rarr b :: pt q1 :: pt q4 :: u 4 :: iN .i64 j :: iN .i64 j :: .bool true :: u 8 :: u 9 :: u 10 :: u 11 :: u 12 :: u 13 :: u 14 :: u 15 :: u 16 :: u 17 :: u 18 :: u 19 :: u 20 :: u 21 :: u 22 :: u 23 :: List.replicate 0 un).toArray, []⟩) (by kernel_rfl) ?_
      refine wp_cond_true (by kernel_rfl) ?_
      refine wp_skip ?_
      refine then_at (F := ⟨(rarr a :: rarr b :: pt q1 :: pt q4 :: u 4 :: iN .i64 j :: iN .i64 j :: .bool true :: u 8 :: u 9 :: u 10 :: u 11 :: u 12 :: u 13 :: u 14 :: u 15 :: u 16 :: u 17 :: u 18 :: u 19 :: u 20 :: u 21 :: u 22 :: u 23 :: List.replicate 0 un).toArray, []⟩) (by kernel_rfl) ?_
      refine wp_seq ?_
      refine wp_block ?_
      refine wp_seq ?_
      -- region 4
      refine wp_region_sure ⟨(rarr a :: rarr b :: pt q1 :: pt q4 :: u 4 :: iN .i64 j :: iN .i64 j :: .bool true :: u 8 :: u 9 :: iN .i64 j :: .pointer (some ⟨q1, j, none⟩) :: iN .u32 (a / 65536 ^ j % 65536) :: iN .i64 j :: .pointer (some ⟨q4, j, none⟩) :: iN .u32 (b / 65536 ^ j % 65536) :: .bool true :: u 17 :: u 18 :: u 19 :: u 20 :: u 21 :: u 22 :: u 23 :: List.replicate 0 un).toArray, []⟩ (HA w [(q4, 30, rl b), (q1, 30, rl a)]) [iN .i64 j, .pointer (some ⟨q1, j, none⟩), iN .u32 (a / 65536 ^ j % 65536), iN .i64 j, .pointer (some ⟨q4, j, none⟩), iN .u32 (b / 65536 ^ j % 65536), .bool true] (by kernel_rfl) (by kernel_rfl) (by kernel_rfl) (by kernel_rfl) (fun _ _ _ h => h) h8.drew ?_ ?_
      · refine AllSure.cons (OpSure.take (v := iN .i64 j) (by kernel_rfl) (by kernel_rfl) (fun _ _ => (by kernel_rfl))) ?_
        refine AllSure.cons (OpSure.take (v := .pointer (some ⟨q1, j, none⟩)) (by kernel_rfl) (by kernel_rfl) (fun _ _ => (run_addr_arr (q := q1) (a := j) Tryd.underlying30 (fun w => Tryd.sizeOf22 w) (by kernel_rfl) (by kernel_rfl) (by omega)))) ?_
        refine AllSure.cons (OpSure.take (v := iN .u32 (a / 65536 ^ j % 65536)) (by kernel_rfl) (by kernel_rfl) (fun _ h => run_load1 (fun w => Tryd.isAgg22 w) (by kernel_rfl) (((h.get 1 rfl).cell j).trans (rl_get a j (by omega))))) ?_
        refine AllSure.cons (OpSure.take (v := iN .i64 j) (by kernel_rfl) (by kernel_rfl) (fun _ _ => (by kernel_rfl))) ?_
        refine AllSure.cons (OpSure.take (v := .pointer (some ⟨q4, j, none⟩)) (by kernel_rfl) (by kernel_rfl) (fun _ _ => (run_addr_arr (q := q4) (a := j) Tryd.underlying30 (fun w => Tryd.sizeOf22 w) (by kernel_rfl) (by kernel_rfl) (by omega)))) ?_
        refine AllSure.cons (OpSure.take (v := iN .u32 (b / 65536 ^ j % 65536)) (by kernel_rfl) (by kernel_rfl) (fun _ h => run_load1 (fun w => Tryd.isAgg22 w) (by kernel_rfl) (((h.get 0 rfl).cell j).trans (rl_get b j (by omega))))) ?_
        refine AllSure.cons (OpSure.take (v := .bool true) (by kernel_rfl) (by kernel_rfl) (fun _ _ => (run_nei (k := .u32) (a := a / 65536 ^ j % 65536) (b := b / 65536 ^ j % 65536) (by kernel_rfl) (by kernel_rfl) true (decide_eq_true hxy)))) ?_
        exact AllSure.nil
      intro w11 h12
      refine then_at (F := ⟨(rarr a :: rarr b :: pt q1 :: pt q4 :: u 4 :: iN .i64 j :: iN .i64 j :: .bool true :: u 8 :: u 9 :: iN .i64 j :: .pointer (some ⟨q1, j, none⟩) :: iN .u32 (a / 65536 ^ j % 65536) :: iN .i64 j :: .pointer (some ⟨q4, j, none⟩) :: iN .u32 (b / 65536 ^ j % 65536) :: .bool true :: u 17 :: u 18 :: u 19 :: u 20 :: u 21 :: u 22 :: u 23 :: List.replicate 0 un).toArray, []⟩) (by kernel_rfl) ?_
      refine wp_cond_true (by kernel_rfl) ?_
      refine wp_seq ?_
      -- region 5
      refine wp_region_sure ⟨(rarr a :: rarr b :: pt q1 :: pt q4 :: .bool (decide (a / 65536 ^ j % 65536 < b / 65536 ^ j % 65536)) :: iN .i64 j :: iN .i64 j :: .bool true :: u 8 :: u 9 :: iN .i64 j :: .pointer (some ⟨q1, j, none⟩) :: iN .u32 (a / 65536 ^ j % 65536) :: iN .i64 j :: .pointer (some ⟨q4, j, none⟩) :: iN .u32 (b / 65536 ^ j % 65536) :: .bool true :: iN .i64 j :: .pointer (some ⟨q1, j, none⟩) :: iN .u32 (a / 65536 ^ j % 65536) :: iN .i64 j :: .pointer (some ⟨q4, j, none⟩) :: iN .u32 (b / 65536 ^ j % 65536) :: .bool (decide (a / 65536 ^ j % 65536 < b / 65536 ^ j % 65536)) :: List.replicate 0 un).toArray, []⟩ (HA w [(q4, 30, rl b), (q1, 30, rl a)]) [iN .i64 j, .pointer (some ⟨q1, j, none⟩), iN .u32 (a / 65536 ^ j % 65536), iN .i64 j, .pointer (some ⟨q4, j, none⟩), iN .u32 (b / 65536 ^ j % 65536), .bool (decide (a / 65536 ^ j % 65536 < b / 65536 ^ j % 65536)), .bool (decide (a / 65536 ^ j % 65536 < b / 65536 ^ j % 65536))] (by kernel_rfl) (by kernel_rfl) (by kernel_rfl) (by kernel_rfl) (fun _ _ _ h => h) h12.drew ?_ ?_
      · refine AllSure.cons (OpSure.take (v := iN .i64 j) (by kernel_rfl) (by kernel_rfl) (fun _ _ => (by kernel_rfl))) ?_
        refine AllSure.cons (OpSure.take (v := .pointer (some ⟨q1, j, none⟩)) (by kernel_rfl) (by kernel_rfl) (fun _ _ => (run_addr_arr (q := q1) (a := j) Tryd.underlying30 (fun w => Tryd.sizeOf22 w) (by kernel_rfl) (by kernel_rfl) (by omega)))) ?_
        refine AllSure.cons (OpSure.take (v := iN .u32 (a / 65536 ^ j % 65536)) (by kernel_rfl) (by kernel_rfl) (fun _ h => run_load1 (fun w => Tryd.isAgg22 w) (by kernel_rfl) (((h.get 1 rfl).cell j).trans (rl_get a j (by omega))))) ?_
        refine AllSure.cons (OpSure.take (v := iN .i64 j) (by kernel_rfl) (by kernel_rfl) (fun _ _ => (by kernel_rfl))) ?_
        refine AllSure.cons (OpSure.take (v := .pointer (some ⟨q4, j, none⟩)) (by kernel_rfl) (by kernel_rfl) (fun _ _ => (run_addr_arr (q := q4) (a := j) Tryd.underlying30 (fun w => Tryd.sizeOf22 w) (by kernel_rfl) (by kernel_rfl) (by omega)))) ?_
        refine AllSure.cons (OpSure.take (v := iN .u32 (b / 65536 ^ j % 65536)) (by kernel_rfl) (by kernel_rfl) (fun _ h => run_load1 (fun w => Tryd.isAgg22 w) (by kernel_rfl) (((h.get 0 rfl).cell j).trans (rl_get b j (by omega))))) ?_
        refine AllSure.cons (OpSure.take (v := .bool (decide (a / 65536 ^ j % 65536 < b / 65536 ^ j % 65536))) (by kernel_rfl) (by kernel_rfl) (fun _ _ => (run_lss (k := .u32) (a := a / 65536 ^ j % 65536) (b := b / 65536 ^ j % 65536) (by kernel_rfl) (by kernel_rfl) _ rfl))) ?_
        refine AllSure.cons (OpSure.take (v := .bool (decide (a / 65536 ^ j % 65536 < b / 65536 ^ j % 65536))) (by kernel_rfl) (by kernel_rfl) (fun _ _ => (by kernel_rfl))) ?_
        exact AllSure.nil
      intro w13 h14
      refine then_at (F := ⟨(rarr a :: rarr b :: pt q1 :: pt q4 :: .bool (decide (a / 65536 ^ j % 65536 < b / 65536 ^ j % 65536)) :: iN .i64 j :: iN .i64 j :: .bool true :: u 8 :: u 9 :: iN .i64 j :: .pointer (some ⟨q1, j, none⟩) :: iN .u32 (a / 65536 ^ j % 65536) :: iN .i64 j :: .pointer (some ⟨q4, j, none⟩) :: iN .u32 (b / 65536 ^ j % 65536) :: .bool true :: iN .i64 j :: .pointer (some ⟨q1, j, none⟩) :: iN .u32 (a / 65536 ^ j % 65536) :: iN .i64 j :: .pointer (some ⟨q4, j, none⟩) :: iN .u32 (b / 65536 ^ j % 65536) :: .bool (decide (a / 65536 ^ j % 65536 < b / 65536 ^ j % 65536)) :: List.replicate 0 un).toArray, []⟩) (by kernel_rfl) ?_
      refine wp_ret ?_
      repeat first | refine then_ret ?_ | refine block_ret ?_
      exact bodyPost_ret (v := .bool (decide (a / 65536 ^ j % 65536 < b / 65536 ^ j % 65536))) (by kernel_rfl) rfl ⟨by rw [decide_eq_decide.2 (hs.2 hxy)], h14.old⟩
  · rintro _ w15 ⟨u, rfl, h16, hp⟩
    refine wp_seq ?_
    refine wp_seq ?_
    -- region 2
    refine wl_region ?_
    refine wl_val (dnv 0) (by kernel_rfl) (by kernel_rfl) ?_
    refine wl_val (.bool false) (by kernel_rfl) (run_geq0 (k := .i64) (a := -1) (b := 0) (by kernel_rfl) (by kernel_rfl) false (by decide)) ?_
    refine wl_nil ?_
    refine then_at (F := ⟨(rarr a :: rarr b :: pt q1 :: pt q4 :: u 4 :: dnv 0 :: dnv 0 :: .bool false :: u 8 :: u 9 :: u 10 :: u 11 :: u 12 :: u 13 :: u 14 :: u 15 :: u 16 :: u 17 :: u 18 :: u 19 :: u 20 :: u 21 :: u 22 :: u 23 :: List.replicate 0 un).toArray, []⟩) (by kernel_rfl) ?_
    refine wp_cond_false (by kernel_rfl) ?_
    refine wp_exit ?_
    repeat first | refine then_exit ?_ | refine block_exit ?_ | refine block_exit_ne (by decide) ?_
    refine then_at (F := ⟨(rarr a :: rarr b :: pt q1 :: pt q4 :: u 4 :: dnv 0 :: dnv 0 :: .bool false :: u 8 :: u 9 :: u 10 :: u 11 :: u 12 :: u 13 :: u 14 :: u 15 :: u 16 :: u 17 :: u 18 :: u 19 :: u 20 :: u 21 :: u 22 :: u 23 :: List.replicate 0 un).toArray, []⟩) (by kernel_rfl) ?_
    refine wp_seq ?_
    -- region 6
    refine wl_region ?_
    refine wl_val (.bool false) (by kernel_rfl) (by kernel_rfl) ?_
    refine wl_nil ?_
    refine then_at (F := ⟨(rarr a :: rarr b :: pt q1 :: pt q4 :: .bool false :: dnv 0 :: dnv 0 :: .bool false :: u 8 :: u 9 :: u 10 :: u 11 :: u 12 :: u 13 :: u 14 :: u 15 :: u 16 :: u 17 :: u 18 :: u 19 :: u 20 :: u 21 :: u 22 :: u 23 :: List.replicate 0 un).toArray, []⟩) (by kernel_rfl) ?_
    refine wp_ret ?_
    repeat first | refine then_ret ?_ | refine block_ret ?_
    exact bodyPost_ret (v := .bool false) (by kernel_rfl) rfl ⟨by rw [decide_eq_false (less_end hp)], h16.old⟩
end Go.Proofs.YtbmfmamhidccbaaDoor
