/-
  The reference's functions: prime, less, Odd, Small.
-/
import Derived.Test.YtpaendmdcdeemaaDoorOps2
namespace Go.Proofs.YtpaendmdcdeemaaDoor
open Go.RowKit Num

set_option linter.unusedVariables false in
set_option maxRecDepth 100000 in
set_option maxHeartbeats 2000000 in
theorem rprime_any (w : World) : Calls Tryd.prog 85 #[] w fun e w' => e = .returned (rarr P) ∧ Below w.heap.size w w' := by
  have H0 := HA.start w
  go_enter Tryd.func85, Tryd.ntmps85
  refine wp_seq ?_
  -- region 0
  refine wl_region ?_
  refine wl_make H0 32 (by kernel_rfl) run_alloc32 ?_
  intro q1 w2 h3
  refine wl_nil ?_
  refine then_at (F := ⟨(pt q1 :: List.replicate 11 un).toArray, []⟩) (by kernel_rfl) ?_
  refine wp_seq ?_
  -- region 1
  refine wl_region ?_
  refine wl_make h3 32 (by kernel_rfl) run_alloc32 ?_
  intro q4 w5 h6
  refine wl_nil ?_
  refine then_at (F := ⟨(pt q1 :: pt q4 :: List.replicate 10 un).toArray, []⟩) (by kernel_rfl) ?_
  refine wp_seq ?_
  refine wp_seq ?_
  -- region 2
  refine wl_region ?_
  refine wl_val (iN .i64 0) (by kernel_rfl) (by kernel_rfl) ?_
  refine wl_nil ?_
  refine then_at (F := ⟨(pt q1 :: pt q4 :: iN .i64 0 :: List.replicate 9 un).toArray, []⟩) (by kernel_rfl) ?_
  refine wp_block ?_
  refine wp_count (fun k A w' => ∃ u : Nat → Value, A = ⟨(pt q1 :: pt q4 :: iN .i64 k :: u 3 :: u 4 :: u 5 :: u 6 :: u 7 :: u 8 :: List.replicate 3 un).toArray, []⟩ ∧ HA w [(q4, 32, rl (65536 ^ k - 1)), (q1, 32, rl 0)] w') 16 ?_ ?_ ?_
  · exact ⟨fun ii => (([(3, undef), (4, undef), (5, undef), (6, undef), (7, undef), (8, undef)] : List (Nat × Value)).find? (·.1 == ii)).elim undef (·.2), by kernel_rfl, h6⟩
  · rintro k hk _ w7 ⟨u, rfl, h8⟩
    refine wp_seq ?_
    refine wp_seq ?_
    -- region 3
    refine wl_region ?_
    refine wl_val (iN .i64 k) (by kernel_rfl) (by kernel_rfl) ?_
    refine wl_val (.bool true) (by kernel_rfl) (run_lss (k := .i64) (a := k) (b := 16) (by kernel_rfl) (by kernel_rfl) true (decide_eq_true hk)) ?_
    refine wl_nil ?_
    refine then_at (F := ⟨(pt q1 :: pt q4 :: iN .i64 k :: iN .i64 k :: .bool true :: u 5 :: u 6 :: u 7 :: u 8 :: List.replicate 3 un).toArray, []⟩) (by kernel_rfl) ?_
    refine wp_cond_true (by kernel_rfl) ?_
    refine wp_skip ?_
    refine then_at (F := ⟨(pt q1 :: pt q4 :: iN .i64 k :: iN .i64 k :: .bool true :: u 5 :: u 6 :: u 7 :: u 8 :: List.replicate 3 un).toArray, []⟩) (by kernel_rfl) ?_
    refine wp_seq ?_
    refine wp_block ?_
    -- region 5
    refine wl_region ?_
    refine wl_val (iN .i64 k) (by kernel_rfl) (by kernel_rfl) ?_
    refine wl_val (.pointer (some ⟨q4, k, none⟩)) (by kernel_rfl) (run_addr_arr (q := q4) (a := k) Tryd.underlying32 (fun w => Tryd.sizeOf30 w) (by kernel_rfl) (by kernel_rfl) (by omega)) ?_
    refine wl_put (k := .u32) (z := ((65535 : Nat) : Int)) h8 0 rfl k (by rw [rl_size]; exact hk) (by kernel_rfl) (fun w => Tryd.sizeOf30 w) (by kernel_rfl) (by kernel_rfl) ?_
    intro w9 h10
    have h11 : HA w [(q4, 32, rl (65536 ^ (k + 1) - 1)), (q1, 32, rl 0)] w9 := (by rw [← prime_grow k, ← rl_put (65536 ^ k - 1) k 65535 (Nat.sub_lt (Nat.pow_pos (by decide)) (by decide)) hk (by decide)]; exact h10)
    clear h10
    refine wl_nil ?_
    refine block_normal ?_
    refine then_at (F := ⟨(pt q1 :: pt q4 :: iN .i64 k :: iN .i64 k :: .bool true :: u 5 :: u 6 :: iN .i64 k :: .pointer (some ⟨q4, k, none⟩) :: List.replicate 3 un).toArray, []⟩) (by kernel_rfl) ?_
    -- region 4
    refine wl_region ?_
    refine wl_val (iN .i64 k) (by kernel_rfl) (by kernel_rfl) ?_
    refine wl_val (iN .i64 (k + 1)) (by kernel_rfl) (run_add (k := .i64) (a := k) (b := 1) (by kernel_rfl) (by kernel_rfl) (by simp only [top]; omega)) ?_
    refine wl_val (iN .i64 (k + 1)) (by kernel_rfl) (by kernel_rfl) ?_
    refine wl_nil ?_
    exact then_I ⟨fun ii => (([(3, iN .i64 k), (4, .bool true), (5, iN .i64 k), (6, iN .i64 (k + 1)), (7, iN .i64 k), (8, .pointer (some ⟨q4, k, none⟩))] : List (Nat × Value)).find? (·.1 == ii)).elim undef (·.2), by kernel_rfl, h11⟩
  · rintro _ w12 ⟨u, rfl, h13⟩
    refine wp_seq ?_
    refine wp_seq ?_
    -- region 3
    refine wl_region ?_
    refine wl_val (iN .i64 16) (by kernel_rfl) (by kernel_rfl) ?_
    refine wl_val (.bool false) (by kernel_rfl) (run_lss (k := .i64) (a := 16) (b := 16) (by kernel_rfl) (by kernel_rfl) false (by decide)) ?_
    refine wl_nil ?_
    refine then_at (F := ⟨(pt q1 :: pt q4 :: iN .i64 16 :: iN .i64 16 :: .bool false :: u 5 :: u 6 :: u 7 :: u 8 :: List.replicate 3 un).toArray, []⟩) (by kernel_rfl) ?_
    refine wp_cond_false (by kernel_rfl) ?_
    refine wp_exit ?_
    repeat first | refine then_exit ?_ | refine block_exit ?_ | refine block_exit_ne (by decide) ?_
    refine then_at (F := ⟨(pt q1 :: pt q4 :: iN .i64 16 :: iN .i64 16 :: .bool false :: u 5 :: u 6 :: u 7 :: u 8 :: List.replicate 3 un).toArray, []⟩) (by kernel_rfl) ?_
    refine wp_seq ?_
    -- region 6
    refine wl_region ?_
    refine wl_val (.pointer (some ⟨q4, 0, none⟩)) (by kernel_rfl) (run_addr_arr (q := q4) (a := 0) Tryd.underlying32 (fun w => Tryd.sizeOf30 w) (by kernel_rfl) (by kernel_rfl) (by decide)) ?_
    refine wl_put (k := .u32) (z := ((65517 : Nat) : Int)) h13 0 rfl 0 (by decide) (by kernel_rfl) (fun w => Tryd.sizeOf30 w) (by kernel_rfl) (by kernel_rfl) ?_
    intro w14 h15
    have h16 : HA w [(q4, 32, (rl (65536 ^ 16 - 1)).setIfInBounds 0 (iN .u32 65517)), (q1, 32, rl 0)] w14 := h15
    clear h15
    refine wl_nil ?_
    refine then_at (F := ⟨(pt q1 :: pt q4 :: iN .i64 16 :: iN .i64 16 :: .bool false :: u 5 :: u 6 :: u 7 :: u 8 :: pt q4 :: List.replicate 2 un).toArray, []⟩) (by kernel_rfl) ?_
    refine wp_seq ?_
    -- region 7
    refine wl_region ?_
    refine wl_val (.pointer (some ⟨q4, 15, none⟩)) (by kernel_rfl) (run_addr_arr (q := q4) (a := 15) Tryd.underlying32 (fun w => Tryd.sizeOf30 w) (by kernel_rfl) (by kernel_rfl) (by decide)) ?_
    refine wl_put (k := .u32) (z := ((32767 : Nat) : Int)) h16 0 rfl 15 (by decide) (by kernel_rfl) (fun w => Tryd.sizeOf30 w) (by kernel_rfl) (by kernel_rfl) ?_
    intro w17 h18
    have h19 : HA w [(q4, 32, rl P), (q1, 32, rl 0)] w17 := (by rw [← prime_cells]; exact h18)
    clear h18
    refine wl_nil ?_
    refine then_at (F := ⟨(pt q1 :: pt q4 :: iN .i64 16 :: iN .i64 16 :: .bool false :: u 5 :: u 6 :: u 7 :: u 8 :: pt q4 :: .pointer (some ⟨q4, 15, none⟩) :: List.replicate 1 un).toArray, []⟩) (by kernel_rfl) ?_
    refine wp_seq ?_
    -- region 8
    refine wl_region ?_
    refine wl_load h19 0 rfl (by kernel_rfl) (by kernel_rfl) Tryd.underlying32 rfl (info_rl _) ?_
    refine wl_fill (c' := rl P) h19 1 rfl (by kernel_rfl) (by kernel_rfl) (by kernel_rfl) (rl_sz _ _) (info_rl _) (one_rl _) ?_
    intro w20 (h21 : HA w [(q4, 32, rl P), (q1, 32, rl P)] w20)
    refine wl_nil ?_
    refine then_at (F := ⟨(pt q1 :: pt q4 :: iN .i64 16 :: iN .i64 16 :: .bool false :: u 5 :: u 6 :: u 7 :: u 8 :: pt q4 :: .pointer (some ⟨q4, 15, none⟩) :: rarr P :: List.replicate 0 un).toArray, []⟩) (by kernel_rfl) ?_
    refine wp_ret ?_
    repeat first | refine then_ret ?_ | refine block_ret ?_
    exact bodyPost_ret (v := rarr P) (res_cell (p := 0) (by kernel_rfl) (by kernel_rfl) (h21.get 1 rfl) Tryd.underlying32 rfl (info_rl _)) rfl ⟨rfl, h21.old⟩

theorem odd16 (n : Nat) : decide (n / 65536 ^ 0 % 65536 % 2 = 1) = decide (n % 2 = 1) := by
  rw [Nat.pow_zero, Nat.div_one]
  congr 1
  rw [Nat.mod_mod_of_dvd _ (by decide)]

set_option linter.unusedVariables false in
set_option maxRecDepth 100000 in
set_option maxHeartbeats 2000000 in
theorem rodd_any (n : Nat) (w : World) : Calls Tryd.prog 53 #[rarr n] w fun e w' => e = .returned (.bool (decide (n % 2 = 1))) ∧ Below w.heap.size w w' := by
  have H0 := HA.start w
  go_enter Tryd.func53, Tryd.ntmps53
  refine wp_seq ?_
  -- region 0
  refine wl_region ?_
  refine wl_make H0 32 (by kernel_rfl) (run_box32 (c := rl n) (by kernel_rfl)) ?_
  intro q1 w2 h3
  refine wl_val (.bool false) (by kernel_rfl) (by kernel_rfl) ?_
  refine wl_nil ?_
  refine then_at (F := ⟨(rarr n :: pt q1 :: .bool false :: List.replicate 4 un).toArray, []⟩) (by kernel_rfl) ?_
  refine wp_seq ?_
  -- region 1
  refine wl_region ?_
  refine wl_val (.pointer (some ⟨q1, 0, none⟩)) (by kernel_rfl) (run_addr_arr (q := q1) (a := 0) Tryd.underlying32 (fun w => Tryd.sizeOf30 w) (by kernel_rfl) (by kernel_rfl) (by decide)) ?_
  refine wl_val (iN .u32 (n / 65536 ^ 0 % 65536)) (by kernel_rfl) (run_load1 (fun w => Tryd.isAgg30 w) (by kernel_rfl) (((h3.get 0 rfl).cell 0).trans (rl_get n 0 (by decide)))) ?_
  refine wl_val (iN .u32 ((n / 65536 ^ 0 % 65536) % 2)) (by kernel_rfl) (run_rem (k := .u32) (a := n / 65536 ^ 0 % 65536) (b := 2) (by kernel_rfl) (by kernel_rfl) (by omega)) ?_
  refine wl_val (.bool (decide ((n / 65536 ^ 0 % 65536) % 2 = 1))) (by kernel_rfl) (run_eqi (k := .u32) (a := (n / 65536 ^ 0 % 65536) % 2) (b := 1) (by kernel_rfl) (by kernel_rfl) _ rfl) ?_
  refine wl_val (.bool (decide ((n / 65536 ^ 0 % 65536) % 2 = 1))) (by kernel_rfl) (by kernel_rfl) ?_
  refine wl_nil ?_
  refine then_at (F := ⟨(rarr n :: pt q1 :: .bool (decide ((n / 65536 ^ 0 % 65536) % 2 = 1)) :: pt q1 :: iN .u32 (n / 65536 ^ 0 % 65536) :: iN .u32 ((n / 65536 ^ 0 % 65536) % 2) :: .bool (decide ((n / 65536 ^ 0 % 65536) % 2 = 1)) :: List.replicate 0 un).toArray, []⟩) (by kernel_rfl) ?_
  refine wp_ret ?_
  repeat first | refine then_ret ?_ | refine block_ret ?_
  exact bodyPost_ret (v := .bool (decide (n / 65536 ^ 0 % 65536 % 2 = 1))) (by kernel_rfl) rfl ⟨by rw [odd16], h3.old⟩

theorem and16 (n : Nat) : n &&& 65535 = n % 65536 := Nat.and_two_pow_sub_one_eq_mod n 16
theorem small16 (n : Nat) : (n &&& 65535) + n / 2 ^ 16 * 65536 = n := by rw [and16]; omega

set_option linter.unusedVariables false in
set_option maxRecDepth 100000 in
set_option maxHeartbeats 2000000 in
theorem rsmall_any (n : Nat) (hn : n < 4294967296) (w : World) : Calls Tryd.prog 97 #[iN .u32 n] w fun e w' => e = .returned (rarr n) ∧ Below w.heap.size w w' := by
  have H0 := HA.start w
  go_enter Tryd.func97, Tryd.ntmps97
  refine wp_seq ?_
  -- region 0
  refine wl_region ?_
  refine wl_make H0 32 (by kernel_rfl) run_alloc32 ?_
  intro q1 w2 h3
  refine wl_nil ?_
  refine then_at (F := ⟨(iN .u32 n :: un :: pt q1 :: List.replicate 5 un).toArray, []⟩) (by kernel_rfl) ?_
  refine wp_seq ?_
  -- region 1
  refine wl_region ?_
  refine wl_val (iN .u32 n) (by kernel_rfl) (by kernel_rfl) ?_
  refine wl_val (iN .u32 (n &&& 65535)) (by kernel_rfl) (run_and32 (a := n) (b := 65535) (by kernel_rfl) (by kernel_rfl) (by omega) (by decide)) ?_
  refine wl_val (iN .u32 n) (by kernel_rfl) (by kernel_rfl) ?_
  refine wl_val (iN .u32 (n / 2 ^ 16)) (by kernel_rfl) (run_shr (k2 := .u64) (k := .u32) (a := n) (b := 16) (by kernel_rfl) (by kernel_rfl) (by decide)) ?_
  refine wl_val (rarr ((n &&& 65535) + n / 2 ^ 16 * 65536)) (by kernel_rfl) (run_build2 (a := n &&& 65535) (b := n / 2 ^ 16) (by kernel_rfl) (by kernel_rfl) (by rw [and16]; omega) (by omega)) ?_
  refine wl_fill (c' := rl ((n &&& 65535) + n / 2 ^ 16 * 65536)) h3 0 rfl (by kernel_rfl) (by kernel_rfl) (by kernel_rfl) (rl_sz _ _) (info_rl _) (one_rl _) ?_
  intro w4 (h5 : HA w [(q1, 32, rl ((n &&& 65535) + n / 2 ^ 16 * 65536))] w4)
  refine wl_nil ?_
  refine then_at (F := ⟨(iN .u32 n :: un :: pt q1 :: iN .u32 n :: iN .u32 (n &&& 65535) :: iN .u32 n :: iN .u32 (n / 2 ^ 16) :: rarr ((n &&& 65535) + n / 2 ^ 16 * 65536) :: List.replicate 0 un).toArray, []⟩) (by kernel_rfl) ?_
  refine wp_ret ?_
  repeat first | refine then_ret ?_ | refine block_ret ?_
  exact bodyPost_ret (v := rarr ((n &&& 65535) + n / 2 ^ 16 * 65536)) (res_cell (p := 2) (by kernel_rfl) (by kernel_rfl) (h5.get 0 rfl) Tryd.underlying32 rfl (info_rl _)) rfl ⟨by rw [small16], h5.old⟩

theorem less_start {a b : Nat} (ha : a < 65536 ^ 16) (hb : b < 65536 ^ 16) : a / 65536 ^ (16 - 0) = b / 65536 ^ (16 - 0) := by
  rw [Nat.sub_zero, Nat.div_eq_of_lt ha, Nat.div_eq_of_lt hb]
theorem less_end {a b : Nat} (h : a / 65536 ^ (16 - 16) = b / 65536 ^ (16 - 16)) : ¬ a < b := by
  rw [Nat.sub_self, Nat.pow_zero, Nat.div_one, Nat.div_one] at h
  omega

set_option linter.unusedVariables false in
set_option maxRecDepth 100000 in
set_option maxHeartbeats 2000000 in
theorem rless_any (a b : Nat) (ha : a < 65536 ^ 16) (hb : b < 65536 ^ 16) (w : World) : Calls Tryd.prog 84 #[rarr a, rarr b] w fun e w' => e = .returned (.bool (decide (a < b))) ∧ Below w.heap.size w w' := by
  have H0 := HA.start w
  go_enter Tryd.func84, Tryd.ntmps84
  refine wp_seq ?_
  -- region 0
  refine wl_region ?_
  refine wl_make H0 32 (by kernel_rfl) (run_box32 (c := rl a) (by kernel_rfl)) ?_
  intro q1 w2 h3
  refine wl_make h3 32 (by kernel_rfl) (run_box32 (c := rl b) (by kernel_rfl)) ?_
  intro q4 w5 h6
  refine wl_val (.bool false) (by kernel_rfl) (by kernel_rfl) ?_
  refine wl_nil ?_
  refine then_at (F := ⟨(rarr a :: rarr b :: pt q1 :: pt q4 :: .bool false :: List.replicate 19 un).toArray, []⟩) (by kernel_rfl) ?_
  refine wp_seq ?_
  refine wp_seq ?_
  -- region 1
  refine wl_region ?_
  refine wl_val (iN .i64 15) (by kernel_rfl) (by kernel_rfl) ?_
  refine wl_nil ?_
  refine then_at (F := ⟨(rarr a :: rarr b :: pt q1 :: pt q4 :: .bool false :: iN .i64 15 :: List.replicate 18 un).toArray, []⟩) (by kernel_rfl) ?_
  refine wp_block ?_
  refine wp_count (fun k A w' => ∃ u : Nat → Value, A = ⟨(rarr a :: rarr b :: pt q1 :: pt q4 :: u 4 :: dnv (16 - k) :: u 6 :: u 7 :: u 8 :: u 9 :: u 10 :: u 11 :: u 12 :: u 13 :: u 14 :: u 15 :: u 16 :: u 17 :: u 18 :: u 19 :: u 20 :: u 21 :: u 22 :: u 23 :: List.replicate 0 un).toArray, []⟩ ∧ HA w [(q4, 32, rl b), (q1, 32, rl a)] w' ∧ a / 65536 ^ (16 - k) = b / 65536 ^ (16 - k)) 16 ?_ ?_ ?_
  · exact ⟨fun ii => (([(4, .bool false), (6, undef), (7, undef), (8, undef), (9, undef), (10, undef), (11, undef), (12, undef), (13, undef), (14, undef), (15, undef), (16, undef), (17, undef), (18, undef), (19, undef), (20, undef), (21, undef), (22, undef), (23, undef)] : List (Nat × Value)).find? (·.1 == ii)).elim undef (·.2), by kernel_rfl, h6, less_start ha hb⟩
  · rintro k hk _ w7 ⟨u, rfl, h8, hp⟩
    obtain ⟨j, hj, ej⟩ : ∃ j, j < 16 ∧ 16 - k = j + 1 := ⟨15 - k, by omega, by omega⟩
    have ej2 : 16 - (k + 1) = j := by omega
    rw [ej] at hp
    rw [ej, ej2]
    have hs := less_step 65536 a b j hp
    by_cases hxy : a / 65536 ^ j % 65536 = b / 65536 ^ j % 65536
    · refine wp_seq ?_
      refine wp_seq ?_
      -- region 2
      refine wl_region ?_
      refine wl_val (iN .i64 j) (by kernel_rfl) (by kernel_rfl) ?_
      refine wl_val (.bool true) (by kernel_rfl) (run_geq0 (k := .i64) (a := ((j : Nat) : Int)) (b := 0) (by kernel_rfl) (by kernel_rfl) true (decide_eq_true (by omega))) ?_
      refine wl_nil ?_
      refine then_at (F := ⟨(rarr a :: rarr b :: pt q1 :: pt q4 :: u 4 :: iN .i64 j :: iN .i64 j :: .bool true :: u 8 :: u 9 :: u 10 :: u 11 :: u 12 :: u 13 :: u 14 :: u 15 :: u 16 :: u 17 :: u 18 :: u 19 :: u 20 :: u 21 :: u 22 :: u 23 :: List.replicate 0 un).toArray, []⟩) (by kernel_rfl) ?_
      refine wp_cond_true (by kernel_rfl) ?_
      refine wp_skip ?_
      refine then_at (F := ⟨(rarr a :: rarr b :: pt q1 :: pt q4 :: u 4 :: iN .i64 j :: iN .i64 j :: .bool true :: u 8 :: u 9 :: u 10 :: u 11 :: u 12 :: u 13 :: u 14 :: u 15 :: u 16 :: u 17 :: u 18 :: u 19 :: u 20 :: u 21 :: u 22 :: u 23 :: List.replicate 0 un).toArray, []⟩) (by kernel_rfl) ?_
      refine wp_seq ?_
      refine wp_block ?_
      refine wp_seq ?_
      -- region 4
      refine wp_region_sure ⟨(rarr a :: rarr b :: pt q1 :: pt q4 :: u 4 :: iN .i64 j :: iN .i64 j :: .bool true :: u 8 :: u 9 :: iN .i64 j :: .pointer (some ⟨q1, j, none⟩) :: iN .u32 (a / 65536 ^ j % 65536) :: iN .i64 j :: .pointer (some ⟨q4, j, none⟩) :: iN .u32 (b / 65536 ^ j % 65536) :: .bool false :: u 17 :: u 18 :: u 19 :: u 20 :: u 21 :: u 22 :: u 23 :: List.replicate 0 un).toArray, []⟩ (HA w [(q4, 32, rl b), (q1, 32, rl a)]) [iN .i64 j, .pointer (some ⟨q1, j, none⟩), iN .u32 (a / 65536 ^ j % 65536), iN .i64 j, .pointer (some ⟨q4, j, none⟩), iN .u32 (b / 65536 ^ j % 65536), .bool false] (by kernel_rfl) (by kernel_rfl) (by kernel_rfl) (by kernel_rfl) (fun _ _ _ h => h) h8.drew ?_ ?_
      · refine AllSure.cons (OpSure.take (v := iN .i64 j) (by kernel_rfl) (by kernel_rfl) (fun _ _ => (by kernel_rfl))) ?_
        refine AllSure.cons (OpSure.take (v := .pointer (some ⟨q1, j, none⟩)) (by kernel_rfl) (by kernel_rfl) (fun _ _ => (run_addr_arr (q := q1) (a := j) Tryd.underlying32 (fun w => Tryd.sizeOf30 w) (by kernel_rfl) (by kernel_rfl) (by omega)))) ?_
        refine AllSure.cons (OpSure.take (v := iN .u32 (a / 65536 ^ j % 65536)) (by kernel_rfl) (by kernel_rfl) (fun _ h => run_load1 (fun w => Tryd.isAgg30 w) (by kernel_rfl) (((h.get 1 rfl).cell j).trans (rl_get a j (by omega))))) ?_
        refine AllSure.cons (OpSure.take (v := iN .i64 j) (by kernel_rfl) (by kernel_rfl) (fun _ _ => (by kernel_rfl))) ?_
        refine AllSure.cons (OpSure.take (v := .pointer (some ⟨q4, j, none⟩)) (by kernel_rfl) (by kernel_rfl) (fun _ _ => (run_addr_arr (q := q4) (a := j) Tryd.underlying32 (fun w => Tryd.sizeOf30 w) (by kernel_rfl) (by kernel_rfl) (by omega)))) ?_
        refine AllSure.cons (OpSure.take (v := iN .u32 (b / 65536 ^ j % 65536)) (by kernel_rfl) (by kernel_rfl) (fun _ h => run_load1 (fun w => Tryd.isAgg30 w) (by kernel_rfl) (((h.get 0 rfl).cell j).trans (rl_get b j (by omega))))) ?_
        refine AllSure.cons (OpSure.take (v := .bool false) (by kernel_rfl) (by kernel_rfl) (fun _ _ => (run_nei (k := .u32) (a := a / 65536 ^ j % 65536) (b := b / 65536 ^ j % 65536) (by kernel_rfl) (by kernel_rfl) false (by rw [decide_eq_false]; exact fun h => h hxy)))) ?_
        exact AllSure.nil
      intro w9 h10
      refine then_at (F := ⟨(rarr a :: rarr b :: pt q1 :: pt q4 :: u 4 :: iN .i64 j :: iN .i64 j :: .bool true :: u 8 :: u 9 :: iN .i64 j :: .pointer (some ⟨q1, j, none⟩) :: iN .u32 (a / 65536 ^ j % 65536) :: iN .i64 j :: .pointer (some ⟨q4, j, none⟩) :: iN .u32 (b / 65536 ^ j % 65536) :: .bool false :: u 17 :: u 18 :: u 19 :: u 20 :: u 21 :: u 22 :: u 23 :: List.replicate 0 un).toArray, []⟩) (by kernel_rfl) ?_
      refine wp_cond_false (by kernel_rfl) ?_
      refine wp_skip ?_
      refine block_normal ?_
      refine then_at (F := ⟨(rarr a :: rarr b :: pt q1 :: pt q4 :: u 4 :: iN .i64 j :: iN .i64 j :: .bool true :: u 8 :: u 9 :: iN .i64 j :: .pointer (some ⟨q1, j, none⟩) :: iN .u32 (a / 65536 ^ j % 65536) :: iN .i64 j :: .pointer (some ⟨q4, j, none⟩) :: iN .u32 (b / 65536 ^ j % 65536) :: .bool false :: u 17 :: u 18 :: u 19 :: u 20 :: u 21 :: u 22 :: u 23 :: List.replicate 0 un).toArray, []⟩) (by kernel_rfl) ?_
      -- region 3
      refine wl_region ?_
      refine wl_val (iN .i64 j) (by kernel_rfl) (by kernel_rfl) ?_
      refine wl_val (dnv j) (by kernel_rfl) (run_dec (j := j) (by omega) (by kernel_rfl) (by kernel_rfl)) ?_
      refine wl_val (dnv j) (by kernel_rfl) (by kernel_rfl) ?_
      refine wl_nil ?_
      exact then_I ⟨fun ii => (([(4, u 4), (6, iN .i64 j), (7, .bool true), (8, iN .i64 j), (9, dnv j), (10, iN .i64 j), (11, .pointer (some ⟨q1, j, none⟩)), (12, iN .u32 (a / 65536 ^ j % 65536)), (13, iN .i64 j), (14, .pointer (some ⟨q4, j, none⟩)), (15, iN .u32 (b / 65536 ^ j % 65536)), (16, .bool false), (17, u 17), (18, u 18), (19, u 19), (20, u 20), (21, u 21), (22, u 22), (23, u 23)] : List (Nat × Value)).find? (·.1 == ii)).elim undef (·.2), by kernel_rfl, h10, hs.1 hxy⟩
    · refine wp_seq ?_
      refine wp_seq ?_
      -- region 2
      refine wl_region ?_
      refine wl_val (iN .i64 j) (by kernel_rfl) (by kernel_rfl) ?_
      refine wl_val (.bool true) (by kernel_rfl) (run_geq0 (k := .i64) (a := ((j : Nat) : Int)) (b := 0) (by kernel_rfl) (by kernel_rfl) true (decide_eq_true (by omega))) ?_
      refine wl_nil ?_
      refine then_at (F := ⟨(rarr a :: rarr b :: pt q1 :: pt q4 :: u 4 :: iN .i64 j :: iN .i64 j :: .bool true :: u 8 :: u 9 :: u 10 :: u 11 :: u 12 :: u 13 :: u 14 :: u 15 :: u 16 :: u 17 :: u 18 :: u 19 :: u 20 :: u 21 :: u 22 :: u 23 :: List.replicate 0 un).toArray, []⟩) (by kernel_rfl) ?_
      refine wp_cond_true (by kernel_rfl) ?_
      refine wp_skip ?_
      refine then_at (F := ⟨(rarr a :: rarr b :: pt q1 :: pt q4 :: u 4 :: iN .i64 j :: iN .i64 j :: .bool true :: u 8 :: u 9 :: u 10 :: u 11 :: u 12 :: u 13 :: u 14 :: u 15 :: u 16 :: u 17 :: u 18 :: u 19 :: u 20 :: u 21 :: u 22 :: u 23 :: List.replicate 0 un).toArray, []⟩) (by kernel_rfl) ?_
      refine wp_seq ?_
      refine wp_block ?_
      refine wp_seq ?_
      -- region 4
      refine wp_region_sure ⟨(rarr a :: rarr b :: pt q1 :: pt q4 :: u 4 :: iN .i64 j :: iN .i64 j :: .bool true :: u 8 :: u 9 :: iN .i64 j :: .pointer (some ⟨q1, j, none⟩) :: iN .u32 (a / 65536 ^ j % 65536) :: iN .i64 j :: .pointer (some ⟨q4, j, none⟩) :: iN .u32 (b / 65536 ^ j % 65536) :: .bool true :: u 17 :: u 18 :: u 19 :: u 20 :: u 21 :: u 22 :: u 23 :: List.replicate 0 un).toArray, []⟩ (HA w [(q4, 32, rl b), (q1, 32, rl a)]) [iN .i64 j, .pointer (some ⟨q1, j, none⟩), iN .u32 (a / 65536 ^ j % 65536), iN .i64 j, .pointer (some ⟨q4, j, none⟩), iN .u32 (b / 65536 ^ j % 65536), .bool true] (by kernel_rfl) (by kernel_rfl) (by kernel_rfl) (by kernel_rfl) (fun _ _ _ h => h) h8.drew ?_ ?_
      · refine AllSure.cons (OpSure.take (v := iN .i64 j) (by kernel_rfl) (by kernel_rfl) (fun _ _ => (by kernel_rfl))) ?_
        refine AllSure.cons (OpSure.take (v := .pointer (some ⟨q1, j, none⟩)) (by kernel_rfl) (by kernel_rfl) (fun _ _ => (run_addr_arr (q := q1) (a := j) Tryd.underlying32 (fun w => Tryd.sizeOf30 w) (by kernel_rfl) (by kernel_rfl) (by omega)))) ?_
        refine AllSure.cons (OpSure.take (v := iN .u32 (a / 65536 ^ j % 65536)) (by kernel_rfl) (by kernel_rfl) (fun _ h => run_load1 (fun w => Tryd.isAgg30 w) (by kernel_rfl) (((h.get 1 rfl).cell j).trans (rl_get a j (by omega))))) ?_
        refine AllSure.cons (OpSure.take (v := iN .i64 j) (by kernel_rfl) (by kernel_rfl) (fun _ _ => (by kernel_rfl))) ?_
        refine AllSure.cons (OpSure.take (v := .pointer (some ⟨q4, j, none⟩)) (by kernel_rfl) (by kernel_rfl) (fun _ _ => (run_addr_arr (q := q4) (a := j) Tryd.underlying32 (fun w => Tryd.sizeOf30 w) (by kernel_rfl) (by kernel_rfl) (by omega)))) ?_
        refine AllSure.cons (OpSure.take (v := iN .u32 (b / 65536 ^ j % 65536)) (by kernel_rfl) (by kernel_rfl) (fun _ h => run_load1 (fun w => Tryd.isAgg30 w) (by kernel_rfl) (((h.get 0 rfl).cell j).trans (rl_get b j (by omega))))) ?_
        refine AllSure.cons (OpSure.take (v := .bool true) (by kernel_rfl) (by kernel_rfl) (fun _ _ => (run_nei (k := .u32) (a := a / 65536 ^ j % 65536) (b := b / 65536 ^ j % 65536) (by kernel_rfl) (by kernel_rfl) true (decide_eq_true hxy)))) ?_
        exact AllSure.nil
      intro w11 h12
      refine then_at (F := ⟨(rarr a :: rarr b :: pt q1 :: pt q4 :: u 4 :: iN .i64 j :: iN .i64 j :: .bool true :: u 8 :: u 9 :: iN .i64 j :: .pointer (some ⟨q1, j, none⟩) :: iN .u32 (a / 65536 ^ j % 65536) :: iN .i64 j :: .pointer (some ⟨q4, j, none⟩) :: iN .u32 (b / 65536 ^ j % 65536) :: .bool true :: u 17 :: u 18 :: u 19 :: u 20 :: u 21 :: u 22 :: u 23 :: List.replicate 0 un).toArray, []⟩) (by kernel_rfl) ?_
      refine wp_cond_true (by kernel_rfl) ?_
      refine wp_seq ?_
      -- region 5
      refine wp_region_sure ⟨(rarr a :: rarr b :: pt q1 :: pt q4 :: .bool (decide (a / 65536 ^ j % 65536 < b / 65536 ^ j % 65536)) :: iN .i64 j :: iN .i64 j :: .bool true :: u 8 :: u 9 :: iN .i64 j :: .pointer (some ⟨q1, j, none⟩) :: iN .u32 (a / 65536 ^ j % 65536) :: iN .i64 j :: .pointer (some ⟨q4, j, none⟩) :: iN .u32 (b / 65536 ^ j % 65536) :: .bool true :: iN .i64 j :: .pointer (some ⟨q1, j, none⟩) :: iN .u32 (a / 65536 ^ j % 65536) :: iN .i64 j :: .pointer (some ⟨q4, j, none⟩) :: iN .u32 (b / 65536 ^ j % 65536) :: .bool (decide (a / 65536 ^ j % 65536 < b / 65536 ^ j % 65536)) :: List.replicate 0 un).toArray, []⟩ (HA w [(q4, 32, rl b), (q1, 32, rl a)]) [iN .i64 j, .pointer (some ⟨q1, j, none⟩), iN .u32 (a / 65536 ^ j % 65536), iN .i64 j, .pointer (some ⟨q4, j, none⟩), iN .u32 (b / 65536 ^ j % 65536), .bool (decide (a / 65536 ^ j % 65536 < b / 65536 ^ j % 65536)), .bool (decide (a / 65536 ^ j % 65536 < b / 65536 ^ j % 65536))] (by kernel_rfl) (by kernel_rfl) (by kernel_rfl) (by kernel_rfl) (fun _ _ _ h => h) h12.drew ?_ ?_
      · refine AllSure.cons (OpSure.take (v := iN .i64 j) (by kernel_rfl) (by kernel_rfl) (fun _ _ => (by kernel_rfl))) ?_
        refine AllSure.cons (OpSure.take (v := .pointer (some ⟨q1, j, none⟩)) (by kernel_rfl) (by kernel_rfl) (fun _ _ => (run_addr_arr (q := q1) (a := j) Tryd.underlying32 (fun w => Tryd.sizeOf30 w) (by kernel_rfl) (by kernel_rfl) (by omega)))) ?_
        refine AllSure.cons (OpSure.take (v := iN .u32 (a / 65536 ^ j % 65536)) (by kernel_rfl) (by kernel_rfl) (fun _ h => run_load1 (fun w => Tryd.isAgg30 w) (by kernel_rfl) (((h.get 1 rfl).cell j).trans (rl_get a j (by omega))))) ?_
        refine AllSure.cons (OpSure.take (v := iN .i64 j) (by kernel_rfl) (by kernel_rfl) (fun _ _ => (by kernel_rfl))) ?_
        refine AllSure.cons (OpSure.take (v := .pointer (some ⟨q4, j, none⟩)) (by kernel_rfl) (by kernel_rfl) (fun _ _ => (run_addr_arr (q := q4) (a := j) Tryd.underlying32 (fun w => Tryd.sizeOf30 w) (by kernel_rfl) (by kernel_rfl) (by omega)))) ?_
        refine AllSure.cons (OpSure.take (v := iN .u32 (b / 65536 ^ j % 65536)) (by kernel_rfl) (by kernel_rfl) (fun _ h => run_load1 (fun w => Tryd.isAgg30 w) (by kernel_rfl) (((h.get 0 rfl).cell j).trans (rl_get b j (by omega))))) ?_
        refine AllSure.cons (OpSure.take (v := .bool (decide (a / 65536 ^ j % 65536 < b / 65536 ^ j % 65536))) (by kernel_rfl) (by kernel_rfl) (fun _ _ => (run_lss (k := .u32) (a := a / 65536 ^ j % 65536) (b := b / 65536 ^ j % 65536) (by kernel_rfl) (by kernel_rfl) _ rfl))) ?_
        refine AllSure.cons (OpSure.take (v := .bool (decide (a / 65536 ^ j % 65536 < b / 65536 ^ j % 65536))) (by kernel_rfl) (by kernel_rfl) (fun _ _ => (by kernel_rfl))) ?_
        exact AllSure.nil
      intro w13 h14
      refine then_at (F := ⟨(rarr a :: rarr b :: pt q1 :: pt q4 :: .bool (decide (a / 65536 ^ j % 65536 < b / 65536 ^ j % 65536)) :: iN .i64 j :: iN .i64 j :: .bool true :: u 8 :: u 9 :: iN .i64 j :: .pointer (some ⟨q1, j, none⟩) :: iN .u32 (a / 65536 ^ j % 65536) :: iN .i64 j :: .pointer (some ⟨q4, j, none⟩) :: iN .u32 (b / 65536 ^ j % 65536) :: .bool true :: iN .i64 j :: .pointer (some ⟨q1, j, none⟩) :: iN .u32 (a / 65536 ^ j % 65536) :: iN .i64 j :: .pointer (some ⟨q4, j, none⟩) :: iN .u32 (b / 65536 ^ j % 65536) :: .bool (decide (a / 65536 ^ j % 65536 < b / 65536 ^ j % 65536)) :: List.replicate 0 un).toArray, []⟩) (by kernel_rfl) ?_
      refine wp_ret ?_
      repeat first | refine then_ret ?_ | refine block_ret ?_
      exact bodyPost_ret (v := .bool (decide (a / 65536 ^ j % 65536 < b / 65536 ^ j % 65536))) (by kernel_rfl) rfl ⟨by rw [decide_eq_decide.2 (hs.2 hxy)], h14.old⟩
  · rintro _ w15 ⟨u, rfl, h16, hp⟩
    refine wp_seq ?_
    refine wp_seq ?_
    -- region 2
    refine wl_region ?_
    refine wl_val (dnv 0) (by kernel_rfl) (by kernel_rfl) ?_
    refine wl_val (.bool false) (by kernel_rfl) (run_geq0 (k := .i64) (a := -1) (b := 0) (by kernel_rfl) (by kernel_rfl) false (by decide)) ?_
    refine wl_nil ?_
    refine then_at (F := ⟨(rarr a :: rarr b :: pt q1 :: pt q4 :: u 4 :: dnv 0 :: dnv 0 :: .bool false :: u 8 :: u 9 :: u 10 :: u 11 :: u 12 :: u 13 :: u 14 :: u 15 :: u 16 :: u 17 :: u 18 :: u 19 :: u 20 :: u 21 :: u 22 :: u 23 :: List.replicate 0 un).toArray, []⟩) (by kernel_rfl) ?_
    refine wp_cond_false (by kernel_rfl) ?_
    refine wp_exit ?_
    repeat first | refine then_exit ?_ | refine block_exit ?_ | refine block_exit_ne (by decide) ?_
    refine then_at (F := ⟨(rarr a :: rarr b :: pt q1 :: pt q4 :: u 4 :: dnv 0 :: dnv 0 :: .bool false :: u 8 :: u 9 :: u 10 :: u 11 :: u 12 :: u 13 :: u 14 :: u 15 :: u 16 :: u 17 :: u 18 :: u 19 :: u 20 :: u 21 :: u 22 :: u 23 :: List.replicate 0 un).toArray, []⟩) (by kernel_rfl) ?_
    refine wp_seq ?_
    -- region 6
    refine wl_region ?_
    refine wl_val (.bool false) (by kernel_rfl) (by kernel_rfl) ?_
    refine wl_nil ?_
    refine then_at (F := ⟨(rarr a :: rarr b :: pt q1 :: pt q4 :: .bool false :: dnv 0 :: dnv 0 :: .bool false :: u 8 :: u 9 :: u 10 :: u 11 :: u 12 :: u 13 :: u 14 :: u 15 :: u 16 :: u 17 :: u 18 :: u 19 :: u 20 :: u 21 :: u 22 :: u 23 :: List.replicate 0 un).toArray, []⟩) (by kernel_rfl) ?_
    refine wp_ret ?_
    repeat first | refine then_ret ?_ | refine block_ret ?_
    exact bodyPost_ret (v := .bool false) (by kernel_rfl) rfl ⟨by rw [decide_eq_false (less_end hp)], h16.old⟩
end Go.Proofs.YtpaendmdcdeemaaDoor

namespace Go.Proofs.YtpaendmdcdeemaaDoor
open Go.RowKit Num

/-- bytes laid so far -/
def by8 (m : Nat) : Array Value := cl .u8 (digs 256 32 m)
theorem by8_size (m : Nat) : (by8 m).size = 32 := rfl
theorem by8_put (m i x : Nat) (hm : m < 256 ^ i) (hi : i < 32) (hx : x < 256) : (by8 m).setIfInBounds i (.int .u8 (x : Int)) = by8 (m + x * 256 ^ i) := by
  unfold by8
  rw [← digs_push 256 32 m i x hm hi hx]
  simp [cl, List.map_set]
theorem pow2 (k : Nat) : 65536 ^ k = 256 ^ (2 * k) := by rw [show (65536 : Nat) = 256 ^ 2 from rfl, ← Nat.pow_mul]
theorem two_bytes (n k : Nat) : n % 65536 ^ k + n / 65536 ^ k % 65536 % 256 * 256 ^ (2 * k) + n / 65536 ^ k % 65536 / 2 ^ 8 % 256 * 256 ^ (2 * k + 1) = n % 65536 ^ (k + 1) := by
  have e : 65536 ^ (k + 1) = 65536 ^ k * 65536 := Nat.pow_succ ..
  have e2 : 256 ^ (2 * k + 1) = 65536 ^ k * 256 := by rw [Nat.pow_succ, pow2]
  have hd : n / 65536 ^ k % 65536 < 65536 := Nat.mod_lt _ (by decide)
  rw [e, e2, Nat.mod_mul, ← pow2]
  generalize n / 65536 ^ k % 65536 = d at *
  generalize 65536 ^ k = p
  have e3 : d = d % 256 + d / 2 ^ 8 % 256 * 256 := by omega
  conv => rhs; rw [e3]
  rw [Nat.mul_add, Nat.mul_comm p (d % 256), Nat.add_assoc]
  congr 2
  rw [Nat.mul_left_comm]
theorem by8_text (n : Nat) : by8 (n % 65536 ^ 16) = (cs (les 32 n)).toArray := by
  unfold by8 cs les cl
  rw [digs_mod 256 32 (n % 65536 ^ 16) n (by decide) (by rw [pow2]; exact Nat.mod_mod _ _)]
  congr 1
  rw [List.map_map]
  refine List.map_congr_left fun x hx => ?_
  have := digs_lt 256 (by decide) 32 n x hx
  show Value.int .u8 (x : Int) = Value.int .u8 ((UInt8.ofNat x).toNat : Int)
  rw [UInt8.toNat_ofNat']
  congr 2
  omega
/-- a byte of a text -/
def sb (s : ByteArray) (i : Nat) : Nat := numS s / 256 ^ i % 256
theorem sb_lt (s : ByteArray) (i : Nat) : sb s i < 256 := Nat.mod_lt _ (by decide)
theorem sb_get (s : ByteArray) (i : Nat) (h : i < s.size) : (s.get i h).toNat = sb s i := by
  unfold sb numS
  have hl : (bts s).length = s.size := bts_length s
  have h1 : digs 256 (bts s).length (num 256 (bts s)) = bts s := digs_num 256 (bts s) (bts_lt s) _ rfl
  have h2 := digs_get 256 (bts s).length (num 256 (bts s)) i (by rw [digs_length]; omega)
  rw [← h2]
  simp only [h1]
  simp [bts]
  rfl
theorem run_sidx {ρ : Operand → Value} {x y : Operand} {s : ByteArray} {a : Nat} {w : World} {dst : Option Tmp} {ty : TypeId} {pos : String} {aft : Array Edge} {gd : Option (Nat × Bool)} (hx : ρ x = .string s) (hy : ρ y = iN .i64 a) (ha : a < s.size) :
    (execOp ρ ⟨dst, .index 9 x y, ty, pos, aft, gd⟩).run Tryd.prog w = .ok (.value (iN .u8 (sb s a))) w := by
  rw [← sb_get s a ha]
  exact run_index_str Tryd.underlying9 hx hy ha
theorem or16 (x y : Nat) (hx : x < 256) : x ||| y * 2 ^ 8 = x + y * 256 := by
  rw [Nat.or_comm, nat_join 8 (y * 2 ^ 8) x (Nat.mul_mod_left ..) hx]
  omega
theorem dig16 (s : ByteArray) (k : Nat) : numS s % 65536 ^ k + (sb s (2 * k) ||| sb s (2 * k + 1) * 2 ^ 8) * 65536 ^ k = numS s % 65536 ^ (k + 1) := by
  rw [or16 _ _ (sb_lt s _), Nat.pow_succ, Nat.mod_mul]
  unfold sb
  rw [pow2, Nat.pow_succ, ← Nat.div_div_eq_div_mul]
  generalize numS s / 256 ^ (2 * k) = d
  have e : d % 65536 = d % 256 + d / 256 % 256 * 256 := by omega
  rw [e, Nat.mul_comm (256 ^ (2 * k))]
end Go.Proofs.YtpaendmdcdeemaaDoor

namespace Go.Proofs.YtpaendmdcdeemaaDoor
open Go.RowKit Num

theorem bytes_lt1 (n k : Nat) : n % 65536 ^ k < 256 ^ (2 * k) := by rw [← pow2]; exact Nat.mod_lt _ (Nat.pow_pos (by decide))
theorem bytes_lt2 (n k : Nat) : n % 65536 ^ k + n / 65536 ^ k % 65536 % 256 * 256 ^ (2 * k) < 256 ^ (2 * k + 1) := by
  have h := bytes_lt1 n k
  have h2 : n / 65536 ^ k % 65536 % 256 ≤ 255 := by omega
  have h3 := Nat.mul_le_mul_right (256 ^ (2 * k)) h2
  rw [Nat.pow_succ]
  omega

set_option linter.unusedVariables false in
set_option maxRecDepth 100000 in
set_option maxHeartbeats 2000000 in
theorem rbytes_any (n : Nat) (w : World) : Calls Tryd.prog 51 #[rarr n] w fun e w' => e = .returned (.string (bytesOf n)) ∧ Below w.heap.size w w' := by
  have H0 := HA.start w
  go_enter Tryd.func51, Tryd.ntmps51
  refine wp_seq ?_
  -- region 0
  refine wl_region ?_
  refine wl_make H0 32 (by kernel_rfl) (run_box32 (c := rl n) (by kernel_rfl)) ?_
  intro q1 w2 h3
  refine wl_val (.string { data := #[] }) (by kernel_rfl) (by kernel_rfl) ?_
  refine wl_nil ?_
  refine then_at (F := ⟨(rarr n :: pt q1 :: .string { data := #[] } :: List.replicate 27 un).toArray, []⟩) (by kernel_rfl) ?_
  refine wp_seq ?_
  -- region 1
  refine wl_region ?_
  refine wl_mkslice (n := 32) h3 5 (by kernel_rfl) (run_mk 32 (by decide) (by kernel_rfl) (by kernel_rfl)) ?_
  intro q4 w5 h6
  refine wl_val (.slice (some ⟨q4, 0, none⟩) 32 32) (by kernel_rfl) (by kernel_rfl) ?_
  refine wl_nil ?_
  refine then_at (F := ⟨(rarr n :: pt q1 :: .string { data := #[] } :: .slice (some ⟨q4, 0, none⟩) 32 32 :: un :: .slice (some ⟨q4, 0, none⟩) 32 32 :: List.replicate 24 un).toArray, []⟩) (by kernel_rfl) ?_
  refine wp_seq ?_
  refine wp_seq ?_
  -- region 2
  refine wl_region ?_
  refine wl_val (iN .i64 0) (by kernel_rfl) (by kernel_rfl) ?_
  refine wl_nil ?_
  refine then_at (F := ⟨(rarr n :: pt q1 :: .string { data := #[] } :: .slice (some ⟨q4, 0, none⟩) 32 32 :: iN .i64 0 :: .slice (some ⟨q4, 0, none⟩) 32 32 :: List.replicate 24 un).toArray, []⟩) (by kernel_rfl) ?_
  refine wp_block ?_
  refine wp_count (fun k A w' => ∃ u : Nat → Value, A = ⟨(rarr n :: pt q1 :: .string { data := #[] } :: .slice (some ⟨q4, 0, none⟩) 32 32 :: iN .i64 k :: .slice (some ⟨q4, 0, none⟩) 32 32 :: u 6 :: u 7 :: u 8 :: u 9 :: u 10 :: u 11 :: u 12 :: u 13 :: u 14 :: u 15 :: u 16 :: u 17 :: u 18 :: u 19 :: u 20 :: u 21 :: u 22 :: u 23 :: u 24 :: u 25 :: u 26 :: u 27 :: List.replicate 2 un).toArray, []⟩ ∧ HA w [(q4, 5, by8 (n % 65536 ^ k)), (q1, 32, rl n)] w') 16 ?_ ?_ ?_
  · exact ⟨fun i => (([(6, undef), (7, undef), (8, undef), (9, undef), (10, undef), (11, undef), (12, undef), (13, undef), (14, undef), (15, undef), (16, undef), (17, undef), (18, undef), (19, undef), (20, undef), (21, undef), (22, undef), (23, undef), (24, undef), (25, undef), (26, undef), (27, undef)] : List (Nat × Value)).find? (·.1 == i)).elim undef (·.2), by kernel_rfl, (by rw [Nat.pow_zero, Nat.mod_one, ← (by kernel_rfl : zr 32 = by8 0)]; exact h6)⟩
  · rintro k hk _ w7 ⟨u, rfl, h8⟩
    refine wp_seq ?_
    refine wp_seq ?_
    -- region 3
    refine wl_region ?_
    refine wl_val (iN .i64 k) (by kernel_rfl) (by kernel_rfl) ?_
    refine wl_val (.bool true) (by kernel_rfl) (run_lss (k := .i64) (a := k) (b := 16) (by kernel_rfl) (by kernel_rfl) true (decide_eq_true hk)) ?_
    refine wl_nil ?_
    refine then_at (F := ⟨(rarr n :: pt q1 :: .string { data := #[] } :: .slice (some ⟨q4, 0, none⟩) 32 32 :: iN .i64 k :: .slice (some ⟨q4, 0, none⟩) 32 32 :: iN .i64 k :: .bool true :: u 8 :: u 9 :: u 10 :: u 11 :: u 12 :: u 13 :: u 14 :: u 15 :: u 16 :: u 17 :: u 18 :: u 19 :: u 20 :: u 21 :: u 22 :: u 23 :: u 24 :: u 25 :: u 26 :: u 27 :: List.replicate 2 un).toArray, []⟩) (by kernel_rfl) ?_
    refine wp_cond_true (by kernel_rfl) ?_
    refine wp_skip ?_
    refine then_at (F := ⟨(rarr n :: pt q1 :: .string { data := #[] } :: .slice (some ⟨q4, 0, none⟩) 32 32 :: iN .i64 k :: .slice (some ⟨q4, 0, none⟩) 32 32 :: iN .i64 k :: .bool true :: u 8 :: u 9 :: u 10 :: u 11 :: u 12 :: u 13 :: u 14 :: u 15 :: u 16 :: u 17 :: u 18 :: u 19 :: u 20 :: u 21 :: u 22 :: u 23 :: u 24 :: u 25 :: u 26 :: u 27 :: List.replicate 2 un).toArray, []⟩) (by kernel_rfl) ?_
    refine wp_seq ?_
    refine wp_block ?_
    refine wp_seq ?_
    -- region 5
    refine wl_region ?_
    refine wl_val (.slice (some ⟨q4, 0, none⟩) 32 32) (by kernel_rfl) (by kernel_rfl) ?_
    refine wl_val (iN .i64 k) (by kernel_rfl) (by kernel_rfl) ?_
    refine wl_val (iN .i64 (2 * k)) (by kernel_rfl) (run_mul (k := .i64) (a := 2) (b := k) (by kernel_rfl) (by kernel_rfl) (by simp only [top]; omega)) ?_
    refine wl_val (iN .i64 k) (by kernel_rfl) (by kernel_rfl) ?_
    refine wl_val (.pointer (some ⟨q1, k, none⟩)) (by kernel_rfl) (run_addr_arr (q := q1) (a := k) Tryd.underlying32 (fun w => Tryd.sizeOf30 w) (by kernel_rfl) (by kernel_rfl) (by omega)) ?_
    refine wl_val (iN .u32 (n / 65536 ^ k % 65536)) (by kernel_rfl) (run_load1 (fun w => Tryd.isAgg30 w) (by kernel_rfl) (((h8.get 1 rfl).cell k).trans (rl_get n k (by omega)))) ?_
    refine wl_val (iN .u8 ((n / 65536 ^ k % 65536) % 256)) (by kernel_rfl) (run_conv8 (k := .u32) (a := n / 65536 ^ k % 65536) Tryd.underlying30 Tryd.underlying5 (by kernel_rfl)) ?_
    refine wl_val (.pointer (some ⟨q4, 2 * k, none⟩)) (by kernel_rfl) (run_addr_slice (q := q4) (n := 32) (m := 32) (a := 2 * k) Tryd.underlying60 (fun w => Tryd.sizeOf5 w) (by kernel_rfl) (by kernel_rfl) (by omega)) ?_
    refine wl_put (k := .u8) (z := (((n / 65536 ^ k % 65536) % 256 : Nat) : Int)) h8 0 rfl (2 * k) (by rw [by8_size]; omega) (by kernel_rfl) (fun w => Tryd.sizeOf5 w) (by kernel_rfl) (by kernel_rfl) ?_
    intro w9 h10
    have h11 : HA w [(q4, 5, by8 (n % 65536 ^ k + n / 65536 ^ k % 65536 % 256 * 256 ^ (2 * k))), (q1, 32, rl n)] w9 := (by rw [← by8_put (n % 65536 ^ k) (2 * k) (n / 65536 ^ k % 65536 % 256) (bytes_lt1 n k) (by omega) (Nat.mod_lt _ (by decide))]; exact h10)
    clear h10
    refine wl_nil ?_
    refine then_at (F := ⟨(rarr n :: pt q1 :: .string { data := #[] } :: .slice (some ⟨q4, 0, none⟩) 32 32 :: iN .i64 k :: .slice (some ⟨q4, 0, none⟩) 32 32 :: iN .i64 k :: .bool true :: u 8 :: u 9 :: .slice (some ⟨q4, 0, none⟩) 32 32 :: iN .i64 k :: iN .i64 (2 * k) :: iN .i64 k :: .pointer (some ⟨q1, k, none⟩) :: iN .u32 (n / 65536 ^ k % 65536) :: iN .u8 ((n / 65536 ^ k % 65536) % 256) :: .pointer (some ⟨q4, 2 * k, none⟩) :: u 18 :: u 19 :: u 20 :: u 21 :: u 22 :: u 23 :: u 24 :: u 25 :: u 26 :: u 27 :: List.replicate 2 un).toArray, []⟩) (by kernel_rfl) ?_
    -- region 6
    refine wl_region ?_
    refine wl_val (.slice (some ⟨q4, 0, none⟩) 32 32) (by kernel_rfl) (by kernel_rfl) ?_
    refine wl_val (iN .i64 k) (by kernel_rfl) (by kernel_rfl) ?_
    refine wl_val (iN .i64 (2 * k)) (by kernel_rfl) (run_mul (k := .i64) (a := 2) (b := k) (by kernel_rfl) (by kernel_rfl) (by simp only [top]; omega)) ?_
    refine wl_val (iN .i64 ((2 * k) + 1)) (by kernel_rfl) (run_add (k := .i64) (a := 2 * k) (b := 1) (by kernel_rfl) (by kernel_rfl) (by simp only [top]; omega)) ?_
    refine wl_val (iN .i64 k) (by kernel_rfl) (by kernel_rfl) ?_
    refine wl_val (.pointer (some ⟨q1, k, none⟩)) (by kernel_rfl) (run_addr_arr (q := q1) (a := k) Tryd.underlying32 (fun w => Tryd.sizeOf30 w) (by kernel_rfl) (by kernel_rfl) (by omega)) ?_
    refine wl_val (iN .u32 (n / 65536 ^ k % 65536)) (by kernel_rfl) (run_load1 (fun w => Tryd.isAgg30 w) (by kernel_rfl) (((h11.get 1 rfl).cell k).trans (rl_get n k (by omega)))) ?_
    refine wl_val (iN .u32 ((n / 65536 ^ k % 65536) / 2 ^ 8)) (by kernel_rfl) (run_shr (k2 := .u64) (k := .u32) (a := n / 65536 ^ k % 65536) (b := 8) (by kernel_rfl) (by kernel_rfl) (by decide)) ?_
    refine wl_val (iN .u8 (((n / 65536 ^ k % 65536) / 2 ^ 8) % 256)) (by kernel_rfl) (run_conv8 (k := .u32) (a := (n / 65536 ^ k % 65536) / 2 ^ 8) Tryd.underlying30 Tryd.underlying5 (by kernel_rfl)) ?_
    refine wl_val (.pointer (some ⟨q4, (2 * k) + 1, none⟩)) (by kernel_rfl) (run_addr_slice (q := q4) (n := 32) (m := 32) (a := (2 * k) + 1) Tryd.underlying60 (fun w => Tryd.sizeOf5 w) (by kernel_rfl) (by kernel_rfl) (by omega)) ?_
    refine wl_put (k := .u8) (z := ((((n / 65536 ^ k % 65536) / 2 ^ 8) % 256 : Nat) : Int)) h11 0 rfl ((2 * k) + 1) (by rw [by8_size]; omega) (by kernel_rfl) (fun w => Tryd.sizeOf5 w) (by kernel_rfl) (by kernel_rfl) ?_
    intro w12 h13
    have h14 : HA w [(q4, 5, by8 (n % 65536 ^ (k + 1))), (q1, 32, rl n)] w12 := (by rw [← two_bytes n k, ← by8_put (n % 65536 ^ k + n / 65536 ^ k % 65536 % 256 * 256 ^ (2 * k)) (2 * k + 1) (n / 65536 ^ k % 65536 / 2 ^ 8 % 256) (bytes_lt2 n k) (by omega) (Nat.mod_lt _ (by decide))]; exact h13)
    clear h13
    refine wl_nil ?_
    refine block_normal ?_
    refine then_at (F := ⟨(rarr n :: pt q1 :: .string { data := #[] } :: .slice (some ⟨q4, 0, none⟩) 32 32 :: iN .i64 k :: .slice (some ⟨q4, 0, none⟩) 32 32 :: iN .i64 k :: .bool true :: u 8 :: u 9 :: .slice (some ⟨q4, 0, none⟩) 32 32 :: iN .i64 k :: iN .i64 (2 * k) :: iN .i64 k :: .pointer (some ⟨q1, k, none⟩) :: iN .u32 (n / 65536 ^ k % 65536) :: iN .u8 ((n / 65536 ^ k % 65536) % 256) :: .pointer (some ⟨q4, 2 * k, none⟩) :: .slice (some ⟨q4, 0, none⟩) 32 32 :: iN .i64 k :: iN .i64 (2 * k) :: iN .i64 ((2 * k) + 1) :: iN .i64 k :: .pointer (some ⟨q1, k, none⟩) :: iN .u32 (n / 65536 ^ k % 65536) :: iN .u32 ((n / 65536 ^ k % 65536) / 2 ^ 8) :: iN .u8 (((n / 65536 ^ k % 65536) / 2 ^ 8) % 256) :: .pointer (some ⟨q4, (2 * k) + 1, none⟩) :: List.replicate 2 un).toArray, []⟩) (by kernel_rfl) ?_
    -- region 4
    refine wl_region ?_
    refine wl_val (iN .i64 k) (by kernel_rfl) (by kernel_rfl) ?_
    refine wl_val (iN .i64 (k + 1)) (by kernel_rfl) (run_add (k := .i64) (a := k) (b := 1) (by kernel_rfl) (by kernel_rfl) (by simp only [top]; omega)) ?_
    refine wl_val (iN .i64 (k + 1)) (by kernel_rfl) (by kernel_rfl) ?_
    refine wl_nil ?_
    exact then_I ⟨fun i => (([(6, iN .i64 k), (7, .bool true), (8, iN .i64 k), (9, iN .i64 (k + 1)), (10, .slice (some ⟨q4, 0, none⟩) 32 32), (11, iN .i64 k), (12, iN .i64 (2 * k)), (13, iN .i64 k), (14, .pointer (some ⟨q1, k, none⟩)), (15, iN .u32 (n / 65536 ^ k % 65536)), (16, iN .u8 ((n / 65536 ^ k % 65536) % 256)), (17, .pointer (some ⟨q4, 2 * k, none⟩)), (18, .slice (some ⟨q4, 0, none⟩) 32 32), (19, iN .i64 k), (20, iN .i64 (2 * k)), (21, iN .i64 ((2 * k) + 1)), (22, iN .i64 k), (23, .pointer (some ⟨q1, k, none⟩)), (24, iN .u32 (n / 65536 ^ k % 65536)), (25, iN .u32 ((n / 65536 ^ k % 65536) / 2 ^ 8)), (26, iN .u8 (((n / 65536 ^ k % 65536) / 2 ^ 8) % 256)), (27, .pointer (some ⟨q4, (2 * k) + 1, none⟩))] : List (Nat × Value)).find? (·.1 == i)).elim undef (·.2), by kernel_rfl, h14⟩
  · rintro _ w15 ⟨u, rfl, h16⟩
    refine wp_seq ?_
    refine wp_seq ?_
    -- region 3
    refine wl_region ?_
    refine wl_val (iN .i64 16) (by kernel_rfl) (by kernel_rfl) ?_
    refine wl_val (.bool false) (by kernel_rfl) (run_lss (k := .i64) (a := 16) (b := 16) (by kernel_rfl) (by kernel_rfl) false (by decide)) ?_
    refine wl_nil ?_
    refine then_at (F := ⟨(rarr n :: pt q1 :: .string { data := #[] } :: .slice (some ⟨q4, 0, none⟩) 32 32 :: iN .i64 16 :: .slice (some ⟨q4, 0, none⟩) 32 32 :: iN .i64 16 :: .bool false :: u 8 :: u 9 :: u 10 :: u 11 :: u 12 :: u 13 :: u 14 :: u 15 :: u 16 :: u 17 :: u 18 :: u 19 :: u 20 :: u 21 :: u 22 :: u 23 :: u 24 :: u 25 :: u 26 :: u 27 :: List.replicate 2 un).toArray, []⟩) (by kernel_rfl) ?_
    refine wp_cond_false (by kernel_rfl) ?_
    refine wp_exit ?_
    repeat first | refine then_exit ?_ | refine block_exit ?_ | refine block_exit_ne (by decide) ?_
    refine then_at (F := ⟨(rarr n :: pt q1 :: .string { data := #[] } :: .slice (some ⟨q4, 0, none⟩) 32 32 :: iN .i64 16 :: .slice (some ⟨q4, 0, none⟩) 32 32 :: iN .i64 16 :: .bool false :: u 8 :: u 9 :: u 10 :: u 11 :: u 12 :: u 13 :: u 14 :: u 15 :: u 16 :: u 17 :: u 18 :: u 19 :: u 20 :: u 21 :: u 22 :: u 23 :: u 24 :: u 25 :: u 26 :: u 27 :: List.replicate 2 un).toArray, []⟩) (by kernel_rfl) ?_
    refine wp_seq ?_
    -- region 7
    refine wl_region ?_
    refine wl_val (.slice (some ⟨q4, 0, none⟩) 32 32) (by kernel_rfl) (by kernel_rfl) ?_
    refine wl_val (.string (bytesOf n)) (by kernel_rfl) (run_text (les 32 n) (by kernel_rfl) (h16.get 0 rfl) (by8_text n) (by rw [les_length])) ?_
    refine wl_val (.string (bytesOf n)) (by kernel_rfl) (by kernel_rfl) ?_
    refine wl_nil ?_
    refine then_at (F := ⟨(rarr n :: pt q1 :: .string (bytesOf n) :: .slice (some ⟨q4, 0, none⟩) 32 32 :: iN .i64 16 :: .slice (some ⟨q4, 0, none⟩) 32 32 :: iN .i64 16 :: .bool false :: u 8 :: u 9 :: u 10 :: u 11 :: u 12 :: u 13 :: u 14 :: u 15 :: u 16 :: u 17 :: u 18 :: u 19 :: u 20 :: u 21 :: u 22 :: u 23 :: u 24 :: u 25 :: u 26 :: u 27 :: .slice (some ⟨q4, 0, none⟩) 32 32 :: .string (bytesOf n) :: List.replicate 0 un).toArray, []⟩) (by kernel_rfl) ?_
    refine wp_ret ?_
    repeat first | refine then_ret ?_ | refine block_ret ?_
    exact bodyPost_ret (v := .string (bytesOf n)) (by kernel_rfl) rfl ⟨rfl, h16.old⟩

theorem sb_shl (s : ByteArray) (i : Nat) : sb s i * 2 ^ 8 < 4294967296 := by have := sb_lt s i; omega
theorem sb_shl_top (s : ByteArray) (i : Nat) : sb s i * 2 ^ 8 < top .u32 := sb_shl s i
theorem of_put (s : ByteArray) (k : Nat) (hk : k < 16) : (rl (numS s % 65536 ^ k)).setIfInBounds k (.int .u32 ((sb s (2 * k) ||| sb s (2 * k + 1) * 2 ^ 8 : Nat) : Int)) = rl (numS s % 65536 ^ (k + 1)) := by
  rw [← dig16 s k]
  refine rl_put _ k _ (Nat.mod_lt _ (Nat.pow_pos (by decide))) hk ?_
  rw [or16 _ _ (sb_lt s _)]
  have := sb_lt s (2 * k)
  have := sb_lt s (2 * k + 1)
  omega
theorem rless_yes (a b : Nat) (ha : a < 65536 ^ 16) (hb : b < 65536 ^ 16) (h : a < b) (w : World) : Calls Tryd.prog 84 #[rarr a, rarr b] w fun e w' => e = .returned (.bool true) ∧ Below w.heap.size w w' := by
  have h1 := rless_any a b ha hb w
  rw [decide_eq_true h] at h1
  exact h1
theorem rless_no (a b : Nat) (ha : a < 65536 ^ 16) (hb : b < 65536 ^ 16) (h : ¬ a < b) (w : World) : Calls Tryd.prog 84 #[rarr a, rarr b] w fun e w' => e = .returned (.bool false) ∧ Below w.heap.size w w' := by
  have h1 := rless_any a b ha hb w
  rw [decide_eq_false h] at h1
  exact h1

set_option linter.unusedVariables false in
set_option maxRecDepth 100000 in
set_option maxHeartbeats 2000000 in
theorem rof_yes (s : ByteArray) (hl : s.size = 32) (hP : numS s % 65536 ^ 16 < P) (w : World) : Calls Tryd.prog 45 #[.string s] w fun e w' => e = .returned (.tuple #[rarr (numS s % 65536 ^ 16), .bool true]) ∧ Below w.heap.size w w' := by
  have H0 := HA.start w
  go_enter Tryd.func45, Tryd.ntmps45
  refine wp_seq ?_
  -- region 0
  refine wl_region ?_
  refine wl_make H0 32 (by kernel_rfl) run_alloc32 ?_
  intro q1 w2 h3
  refine wl_val (.bool false) (by kernel_rfl) (by kernel_rfl) ?_
  refine wl_nil ?_
  refine then_at (F := ⟨(.string s :: un :: pt q1 :: .bool false :: List.replicate 31 un).toArray, []⟩) (by kernel_rfl) ?_
  refine wp_seq ?_
  refine wp_seq ?_
  -- region 1
  refine wl_region ?_
  refine wl_val (.string s) (by kernel_rfl) (by kernel_rfl) ?_
  refine wl_val (iN .i64 s.size) (by kernel_rfl) (run_len (s := s) (by kernel_rfl)) ?_
  refine wl_val (.bool false) (by kernel_rfl) (run_nei (k := .i64) (a := s.size) (b := 32) (by kernel_rfl) (by kernel_rfl) false (decide_eq_false (fun h => h hl))) ?_
  refine wl_nil ?_
  refine then_at (F := ⟨(.string s :: un :: pt q1 :: .bool false :: un :: un :: .string s :: iN .i64 s.size :: .bool false :: List.replicate 26 un).toArray, []⟩) (by kernel_rfl) ?_
  refine wp_cond_false (by kernel_rfl) ?_
  refine wp_skip ?_
  refine then_at (F := ⟨(.string s :: un :: pt q1 :: .bool false :: un :: un :: .string s :: iN .i64 s.size :: .bool false :: List.replicate 26 un).toArray, []⟩) (by kernel_rfl) ?_
  refine wp_seq ?_
  -- region 3
  refine wl_region ?_
  refine wl_make h3 32 (by kernel_rfl) run_alloc32 ?_
  intro q4 w5 h6
  refine wl_nil ?_
  refine then_at (F := ⟨(.string s :: un :: pt q1 :: .bool false :: pt q4 :: un :: .string s :: iN .i64 s.size :: .bool false :: List.replicate 26 un).toArray, []⟩) (by kernel_rfl) ?_
  refine wp_seq ?_
  refine wp_seq ?_
  -- region 4
  refine wl_region ?_
  refine wl_val (iN .i64 0) (by kernel_rfl) (by kernel_rfl) ?_
  refine wl_nil ?_
  refine then_at (F := ⟨(.string s :: un :: pt q1 :: .bool false :: pt q4 :: iN .i64 0 :: .string s :: iN .i64 s.size :: .bool false :: List.replicate 26 un).toArray, []⟩) (by kernel_rfl) ?_
  refine wp_block ?_
  refine wp_count (fun k A w' => ∃ u : Nat → Value, A = ⟨(.string s :: un :: pt q1 :: .bool false :: pt q4 :: iN .i64 k :: .string s :: iN .i64 s.size :: .bool false :: un :: u 10 :: u 11 :: u 12 :: u 13 :: u 14 :: u 15 :: u 16 :: u 17 :: u 18 :: u 19 :: u 20 :: u 21 :: u 22 :: u 23 :: u 24 :: u 25 :: u 26 :: u 27 :: u 28 :: List.replicate 6 un).toArray, []⟩ ∧ HA w [(q4, 32, rl (numS s % 65536 ^ k)), (q1, 32, rl 0)] w') 16 ?_ ?_ ?_
  · exact ⟨fun i => (([(10, undef), (11, undef), (12, undef), (13, undef), (14, undef), (15, undef), (16, undef), (17, undef), (18, undef), (19, undef), (20, undef), (21, undef), (22, undef), (23, undef), (24, undef), (25, undef), (26, undef), (27, undef), (28, undef)] : List (Nat × Value)).find? (·.1 == i)).elim undef (·.2), by kernel_rfl, (by rw [Nat.pow_zero, Nat.mod_one]; exact h6)⟩
  · rintro k hk _ w7 ⟨u, rfl, h8⟩
    refine wp_seq ?_
    refine wp_seq ?_
    -- region 5
    refine wl_region ?_
    refine wl_val (iN .i64 k) (by kernel_rfl) (by kernel_rfl) ?_
    refine wl_val (.bool true) (by kernel_rfl) (run_lss (k := .i64) (a := k) (b := 16) (by kernel_rfl) (by kernel_rfl) true (decide_eq_true hk)) ?_
    refine wl_nil ?_
    refine then_at (F := ⟨(.string s :: un :: pt q1 :: .bool false :: pt q4 :: iN .i64 k :: .string s :: iN .i64 s.size :: .bool false :: un :: iN .i64 k :: .bool true :: u 12 :: u 13 :: u 14 :: u 15 :: u 16 :: u 17 :: u 18 :: u 19 :: u 20 :: u 21 :: u 22 :: u 23 :: u 24 :: u 25 :: u 26 :: u 27 :: u 28 :: List.replicate 6 un).toArray, []⟩) (by kernel_rfl) ?_
    refine wp_cond_true (by kernel_rfl) ?_
    refine wp_skip ?_
    refine then_at (F := ⟨(.string s :: un :: pt q1 :: .bool false :: pt q4 :: iN .i64 k :: .string s :: iN .i64 s.size :: .bool false :: un :: iN .i64 k :: .bool true :: u 12 :: u 13 :: u 14 :: u 15 :: u 16 :: u 17 :: u 18 :: u 19 :: u 20 :: u 21 :: u 22 :: u 23 :: u 24 :: u 25 :: u 26 :: u 27 :: u 28 :: List.replicate 6 un).toArray, []⟩) (by kernel_rfl) ?_
    refine wp_seq ?_
    refine wp_block ?_
    -- region 7
    refine wp_region_ghost (fun _ : Nat → Nat => (⟨(.string s :: un :: pt q1 :: .bool false :: pt q4 :: iN .i64 k :: .string s :: iN .i64 s.size :: .bool false :: un :: iN .i64 k :: .bool true :: u 12 :: u 13 :: iN .i64 k :: .string s :: iN .i64 k :: iN .i64 (2 * k) :: iN .u8 (sb s (2 * k)) :: iN .u32 (sb s (2 * k)) :: .string s :: iN .i64 k :: iN .i64 (2 * k) :: iN .i64 ((2 * k) + 1) :: iN .u8 (sb s ((2 * k) + 1)) :: iN .u32 (sb s ((2 * k) + 1)) :: iN .u32 ((sb s ((2 * k) + 1)) * 2 ^ 8) :: iN .u32 ((sb s (2 * k)) ||| ((sb s ((2 * k) + 1)) * 2 ^ 8)) :: .pointer (some ⟨q4, k, none⟩) :: List.replicate 6 un).toArray, []⟩ : Act)) (GP w [(q4, 32, rl (numS s % 65536 ^ k)), (q1, 32, rl 0)] 15 0 q4 32 (rl (numS s % 65536 ^ (k + 1)))) [iN .i64 k, .string s, iN .i64 k, iN .i64 (2 * k), iN .u8 (sb s (2 * k)), iN .u32 (sb s (2 * k)), .string s, iN .i64 k, iN .i64 (2 * k), iN .i64 ((2 * k) + 1), iN .u8 (sb s ((2 * k) + 1)), iN .u32 (sb s ((2 * k) + 1)), iN .u32 ((sb s ((2 * k) + 1)) * 2 ^ 8), iN .u32 ((sb s (2 * k)) ||| ((sb s ((2 * k) + 1)) * 2 ^ 8)), .pointer (some ⟨q4, k, none⟩), undef] (by kernel_rfl) (by kernel_rfl) (by kernel_rfl) (by kernel_rfl) (fun _ _ _ _ h => h) (fun d hd => GP.start h8.drew (hd 15 (by decide))) ?_ ?_
    · refine AllGhost.cons (gp_plain (v := iN .i64 k) (by decide) (fun _ => by kernel_rfl) (fun _ => by kernel_rfl) (fun _ _ => (by kernel_rfl))) ?_
      refine AllGhost.cons (gp_plain (v := .string s) (by decide) (fun _ => by kernel_rfl) (fun _ => by kernel_rfl) (fun _ _ => (by kernel_rfl))) ?_
      refine AllGhost.cons (gp_plain (v := iN .i64 k) (by decide) (fun _ => by kernel_rfl) (fun _ => by kernel_rfl) (fun _ _ => (by kernel_rfl))) ?_
      refine AllGhost.cons (gp_plain (v := iN .i64 (2 * k)) (by decide) (fun _ => by kernel_rfl) (fun _ => by kernel_rfl) (fun _ _ => (run_mul (k := .i64) (a := 2) (b := k) (by kernel_rfl) (by kernel_rfl) (by simp only [top]; omega)))) ?_
      refine AllGhost.cons (gp_plain (v := iN .u8 (sb s (2 * k))) (by decide) (fun _ => by kernel_rfl) (fun _ => by kernel_rfl) (fun _ _ => (run_sidx (s := s) (a := 2 * k) (by kernel_rfl) (by kernel_rfl) (by omega)))) ?_
      refine AllGhost.cons (gp_plain (v := iN .u32 (sb s (2 * k))) (by decide) (fun _ => by kernel_rfl) (fun _ => by kernel_rfl) (fun _ _ => (run_conv (k := .u8) (a := sb s (2 * k)) .u32 Tryd.underlying5 Tryd.underlying30 (by kernel_rfl) (Nat.lt_trans (sb_lt s _) (by decide))))) ?_
      refine AllGhost.cons (gp_plain (v := .string s) (by decide) (fun _ => by kernel_rfl) (fun _ => by kernel_rfl) (fun _ _ => (by kernel_rfl))) ?_
      refine AllGhost.cons (gp_plain (v := iN .i64 k) (by decide) (fun _ => by kernel_rfl) (fun _ => by kernel_rfl) (fun _ _ => (by kernel_rfl))) ?_
      refine AllGhost.cons (gp_plain (v := iN .i64 (2 * k)) (by decide) (fun _ => by kernel_rfl) (fun _ => by kernel_rfl) (fun _ _ => (run_mul (k := .i64) (a := 2) (b := k) (by kernel_rfl) (by kernel_rfl) (by simp only [top]; omega)))) ?_
      refine AllGhost.cons (gp_plain (v := iN .i64 ((2 * k) + 1)) (by decide) (fun _ => by kernel_rfl) (fun _ => by kernel_rfl) (fun _ _ => (run_add (k := .i64) (a := 2 * k) (b := 1) (by kernel_rfl) (by kernel_rfl) (by simp only [top]; omega)))) ?_
      refine AllGhost.cons (gp_plain (v := iN .u8 (sb s ((2 * k) + 1))) (by decide) (fun _ => by kernel_rfl) (fun _ => by kernel_rfl) (fun _ _ => (run_sidx (s := s) (a := (2 * k) + 1) (by kernel_rfl) (by kernel_rfl) (by omega)))) ?_
      refine AllGhost.cons (gp_plain (v := iN .u32 (sb s ((2 * k) + 1))) (by decide) (fun _ => by kernel_rfl) (fun _ => by kernel_rfl) (fun _ _ => (run_conv (k := .u8) (a := sb s ((2 * k) + 1)) .u32 Tryd.underlying5 Tryd.underlying30 (by kernel_rfl) (Nat.lt_trans (sb_lt s _) (by decide))))) ?_
      refine AllGhost.cons (gp_plain (v := iN .u32 ((sb s ((2 * k) + 1)) * 2 ^ 8)) (by decide) (fun _ => by kernel_rfl) (fun _ => by kernel_rfl) (fun _ _ => (run_shl (k2 := .u64) (k := .u32) (a := sb s ((2 * k) + 1)) (b := 8) (by kernel_rfl) (by kernel_rfl) (by decide) (sb_shl_top s _)))) ?_
      refine AllGhost.cons (gp_plain (v := iN .u32 ((sb s (2 * k)) ||| ((sb s ((2 * k) + 1)) * 2 ^ 8))) (by decide) (fun _ => by kernel_rfl) (fun _ => by kernel_rfl) (fun _ _ => (run_or32 (a := sb s (2 * k)) (b := (sb s ((2 * k) + 1)) * 2 ^ 8) (by kernel_rfl) (by kernel_rfl) (Nat.lt_trans (sb_lt s _) (by decide)) (sb_shl s _)))) ?_
      refine AllGhost.cons (gp_plain (v := .pointer (some ⟨q4, k, none⟩)) (by decide) (fun _ => by kernel_rfl) (fun _ => by kernel_rfl) (fun _ _ => (run_addr_arr (q := q4) (a := k) Tryd.underlying32 (fun w => Tryd.sizeOf30 w) (by kernel_rfl) (by kernel_rfl) (by omega)))) ?_
      refine AllGhost.cons (gp_put (k := .u32) (z := (((sb s (2 * k)) ||| ((sb s ((2 * k) + 1)) * 2 ^ 8) : Nat) : Int)) (off := k) rfl (by rw [rl_size]; omega) (of_put s k hk) (fun w => Tryd.sizeOf30 w) (fun _ => by kernel_rfl) (fun _ => by kernel_rfl) (fun _ => by kernel_rfl) (fun _ => by kernel_rfl)) ?_
      exact AllGhost.nil
    intro _ w9 g10
    have h11 : HA w [(q4, 32, rl (numS s % 65536 ^ (k + 1))), (q1, 32, rl 0)] w9 := g10
    clear g10
    refine block_normal ?_
    refine then_at (F := ⟨(.string s :: un :: pt q1 :: .bool false :: pt q4 :: iN .i64 k :: .string s :: iN .i64 s.size :: .bool false :: un :: iN .i64 k :: .bool true :: u 12 :: u 13 :: iN .i64 k :: .string s :: iN .i64 k :: iN .i64 (2 * k) :: iN .u8 (sb s (2 * k)) :: iN .u32 (sb s (2 * k)) :: .string s :: iN .i64 k :: iN .i64 (2 * k) :: iN .i64 ((2 * k) + 1) :: iN .u8 (sb s ((2 * k) + 1)) :: iN .u32 (sb s ((2 * k) + 1)) :: iN .u32 ((sb s ((2 * k) + 1)) * 2 ^ 8) :: iN .u32 ((sb s (2 * k)) ||| ((sb s ((2 * k) + 1)) * 2 ^ 8)) :: .pointer (some ⟨q4, k, none⟩) :: List.replicate 6 un).toArray, []⟩) (by kernel_rfl) ?_
    -- region 6
    refine wl_region ?_
    refine wl_val (iN .i64 k) (by kernel_rfl) (by kernel_rfl) ?_
    refine wl_val (iN .i64 (k + 1)) (by kernel_rfl) (run_add (k := .i64) (a := k) (b := 1) (by kernel_rfl) (by kernel_rfl) (by simp only [top]; omega)) ?_
    refine wl_val (iN .i64 (k + 1)) (by kernel_rfl) (by kernel_rfl) ?_
    refine wl_nil ?_
    exact then_I ⟨fun i => (([(10, iN .i64 k), (11, .bool true), (12, iN .i64 k), (13, iN .i64 (k + 1)), (14, iN .i64 k), (15, .string s), (16, iN .i64 k), (17, iN .i64 (2 * k)), (18, iN .u8 (sb s (2 * k))), (19, iN .u32 (sb s (2 * k))), (20, .string s), (21, iN .i64 k), (22, iN .i64 (2 * k)), (23, iN .i64 ((2 * k) + 1)), (24, iN .u8 (sb s ((2 * k) + 1))), (25, iN .u32 (sb s ((2 * k) + 1))), (26, iN .u32 ((sb s ((2 * k) + 1)) * 2 ^ 8)), (27, iN .u32 ((sb s (2 * k)) ||| ((sb s ((2 * k) + 1)) * 2 ^ 8))), (28, .pointer (some ⟨q4, k, none⟩))] : List (Nat × Value)).find? (·.1 == i)).elim undef (·.2), by kernel_rfl, h11⟩
  · rintro _ w12 ⟨u, rfl, h13⟩
    refine wp_seq ?_
    refine wp_seq ?_
    -- region 5
    refine wl_region ?_
    refine wl_val (iN .i64 16) (by kernel_rfl) (by kernel_rfl) ?_
    refine wl_val (.bool false) (by kernel_rfl) (run_lss (k := .i64) (a := 16) (b := 16) (by kernel_rfl) (by kernel_rfl) false (by decide)) ?_
    refine wl_nil ?_
    refine then_at (F := ⟨(.string s :: un :: pt q1 :: .bool false :: pt q4 :: iN .i64 16 :: .string s :: iN .i64 s.size :: .bool false :: un :: iN .i64 16 :: .bool false :: u 12 :: u 13 :: u 14 :: u 15 :: u 16 :: u 17 :: u 18 :: u 19 :: u 20 :: u 21 :: u 22 :: u 23 :: u 24 :: u 25 :: u 26 :: u 27 :: u 28 :: List.replicate 6 un).toArray, []⟩) (by kernel_rfl) ?_
    refine wp_cond_false (by kernel_rfl) ?_
    refine wp_exit ?_
    repeat first | refine then_exit ?_ | refine block_exit ?_ | refine block_exit_ne (by decide) ?_
    refine then_at (F := ⟨(.string s :: un :: pt q1 :: .bool false :: pt q4 :: iN .i64 16 :: .string s :: iN .i64 s.size :: .bool false :: un :: iN .i64 16 :: .bool false :: u 12 :: u 13 :: u 14 :: u 15 :: u 16 :: u 17 :: u 18 :: u 19 :: u 20 :: u 21 :: u 22 :: u 23 :: u 24 :: u 25 :: u 26 :: u 27 :: u 28 :: List.replicate 6 un).toArray, []⟩) (by kernel_rfl) ?_
    refine wp_seq ?_
    refine wp_seq ?_
    -- region 8
    refine wp_region_sure ⟨(.string s :: un :: pt q1 :: .bool false :: pt q4 :: iN .i64 16 :: .string s :: iN .i64 s.size :: .bool false :: un :: iN .i64 16 :: .bool false :: u 12 :: u 13 :: u 14 :: u 15 :: u 16 :: u 17 :: u 18 :: u 19 :: u 20 :: u 21 :: u 22 :: u 23 :: u 24 :: u 25 :: u 26 :: u 27 :: u 28 :: rarr (numS s % 65536 ^ 16) :: rarr P :: .bool true :: .bool false :: List.replicate 2 un).toArray, []⟩ (HA w [(q4, 32, rl (numS s % 65536 ^ 16)), (q1, 32, rl 0)]) [rarr (numS s % 65536 ^ 16), rarr P, .bool true, .bool false] (by kernel_rfl) (by kernel_rfl) (by kernel_rfl) (by kernel_rfl) (fun _ _ _ h => h) h13.drew ?_ ?_
    · refine AllSure.cons (OpSure.take (v := rarr (numS s % 65536 ^ 16)) (by kernel_rfl) (by kernel_rfl) (fun _ h => run_load_blk (by kernel_rfl) (h.get 0 rfl) Tryd.underlying32 rfl (info_rl _))) ?_
      refine AllSure.cons (sure_call (v := rarr P) (by kernel_rfl) (by kernel_rfl) enter85 HA.keep #[] (by kernel_rfl) (fun w' h' => rprime_any w')) ?_
      refine AllSure.cons (sure_call (v := .bool true) (by kernel_rfl) (by kernel_rfl) enter84 HA.keep #[rarr (numS s % 65536 ^ 16), rarr P] (by kernel_rfl) (fun w' h' => rless_yes (numS s % 65536 ^ 16) P (Nat.mod_lt _ (by decide)) (by decide) hP w')) ?_
      refine AllSure.cons (OpSure.take (v := .bool false) (by kernel_rfl) (by kernel_rfl) (fun _ _ => (by kernel_rfl))) ?_
      exact AllSure.nil
    intro w14 h15
    refine then_at (F := ⟨(.string s :: un :: pt q1 :: .bool false :: pt q4 :: iN .i64 16 :: .string s :: iN .i64 s.size :: .bool false :: un :: iN .i64 16 :: .bool false :: u 12 :: u 13 :: u 14 :: u 15 :: u 16 :: u 17 :: u 18 :: u 19 :: u 20 :: u 21 :: u 22 :: u 23 :: u 24 :: u 25 :: u 26 :: u 27 :: u 28 :: rarr (numS s % 65536 ^ 16) :: rarr P :: .bool true :: .bool false :: List.replicate 2 un).toArray, []⟩) (by kernel_rfl) ?_
    refine wp_cond_false (by kernel_rfl) ?_
    refine wp_skip ?_
    refine then_at (F := ⟨(.string s :: un :: pt q1 :: .bool false :: pt q4 :: iN .i64 16 :: .string s :: iN .i64 s.size :: .bool false :: un :: iN .i64 16 :: .bool false :: u 12 :: u 13 :: u 14 :: u 15 :: u 16 :: u 17 :: u 18 :: u 19 :: u 20 :: u 21 :: u 22 :: u 23 :: u 24 :: u 25 :: u 26 :: u 27 :: u 28 :: rarr (numS s % 65536 ^ 16) :: rarr P :: .bool true :: .bool false :: List.replicate 2 un).toArray, []⟩) (by kernel_rfl) ?_
    refine wp_seq ?_
    -- region 10
    refine wl_region ?_
    refine wl_load h15 0 rfl (by kernel_rfl) (by kernel_rfl) Tryd.underlying32 rfl (info_rl _) ?_
    refine wl_fill (c' := rl (numS s % 65536 ^ 16)) h15 1 rfl (by kernel_rfl) (by kernel_rfl) (by kernel_rfl) (rl_sz _ _) (info_rl _) (one_rl _) ?_
    intro w16 (h17 : HA w [(q4, 32, rl (numS s % 65536 ^ 16)), (q1, 32, rl (numS s % 65536 ^ 16))] w16)
    refine wl_val (.bool true) (by kernel_rfl) (by kernel_rfl) ?_
    refine wl_nil ?_
    refine then_at (F := ⟨(.string s :: un :: pt q1 :: .bool true :: pt q4 :: iN .i64 16 :: .string s :: iN .i64 s.size :: .bool false :: un :: iN .i64 16 :: .bool false :: u 12 :: u 13 :: u 14 :: u 15 :: u 16 :: u 17 :: u 18 :: u 19 :: u 20 :: u 21 :: u 22 :: u 23 :: u 24 :: u 25 :: u 26 :: u 27 :: u 28 :: rarr (numS s % 65536 ^ 16) :: rarr P :: .bool true :: .bool false :: un :: rarr (numS s % 65536 ^ 16) :: List.replicate 0 un).toArray, []⟩) (by kernel_rfl) ?_
    refine wp_ret ?_
    repeat first | refine then_ret ?_ | refine block_ret ?_
    exact bodyPost_ret (v := .tuple #[rarr (numS s % 65536 ^ 16), .bool true]) (res_cell_tmp (p := 2) (r := 3) (by kernel_rfl) (by kernel_rfl) (by kernel_rfl) (h17.get 1 rfl) Tryd.underlying32 rfl (info_rl _)) rfl ⟨rfl, h17.old⟩

set_option linter.unusedVariables false in
set_option maxRecDepth 100000 in
set_option maxHeartbeats 2000000 in
theorem rof_no (s : ByteArray) (hl : s.size = 32) (hP : ¬ numS s % 65536 ^ 16 < P) (w : World) : Calls Tryd.prog 45 #[.string s] w fun e w' => e = .returned (.tuple #[rarr 0, .bool false]) ∧ Below w.heap.size w w' := by
  have H0 := HA.start w
  go_enter Tryd.func45, Tryd.ntmps45
  refine wp_seq ?_
  -- region 0
  refine wl_region ?_
  refine wl_make H0 32 (by kernel_rfl) run_alloc32 ?_
  intro q1 w2 h3
  refine wl_val (.bool false) (by kernel_rfl) (by kernel_rfl) ?_
  refine wl_nil ?_
  refine then_at (F := ⟨(.string s :: un :: pt q1 :: .bool false :: List.replicate 31 un).toArray, []⟩) (by kernel_rfl) ?_
  refine wp_seq ?_
  refine wp_seq ?_
  -- region 1
  refine wl_region ?_
  refine wl_val (.string s) (by kernel_rfl) (by kernel_rfl) ?_
  refine wl_val (iN .i64 s.size) (by kernel_rfl) (run_len (s := s) (by kernel_rfl)) ?_
  refine wl_val (.bool false) (by kernel_rfl) (run_nei (k := .i64) (a := s.size) (b := 32) (by kernel_rfl) (by kernel_rfl) false (decide_eq_false (fun h => h hl))) ?_
  refine wl_nil ?_
  refine then_at (F := ⟨(.string s :: un :: pt q1 :: .bool false :: un :: un :: .string s :: iN .i64 s.size :: .bool false :: List.replicate 26 un).toArray, []⟩) (by kernel_rfl) ?_
  refine wp_cond_false (by kernel_rfl) ?_
  refine wp_skip ?_
  refine then_at (F := ⟨(.string s :: un :: pt q1 :: .bool false :: un :: un :: .string s :: iN .i64 s.size :: .bool false :: List.replicate 26 un).toArray, []⟩) (by kernel_rfl) ?_
  refine wp_seq ?_
  -- region 3
  refine wl_region ?_
  refine wl_make h3 32 (by kernel_rfl) run_alloc32 ?_
  intro q4 w5 h6
  refine wl_nil ?_
  refine then_at (F := ⟨(.string s :: un :: pt q1 :: .bool false :: pt q4 :: un :: .string s :: iN .i64 s.size :: .bool false :: List.replicate 26 un).toArray, []⟩) (by kernel_rfl) ?_
  refine wp_seq ?_
  refine wp_seq ?_
  -- region 4
  refine wl_region ?_
  refine wl_val (iN .i64 0) (by kernel_rfl) (by kernel_rfl) ?_
  refine wl_nil ?_
  refine then_at (F := ⟨(.string s :: un :: pt q1 :: .bool false :: pt q4 :: iN .i64 0 :: .string s :: iN .i64 s.size :: .bool false :: List.replicate 26 un).toArray, []⟩) (by kernel_rfl) ?_
  refine wp_block ?_
  refine wp_count (fun k A w' => ∃ u : Nat → Value, A = ⟨(.string s :: un :: pt q1 :: .bool false :: pt q4 :: iN .i64 k :: .string s :: iN .i64 s.size :: .bool false :: un :: u 10 :: u 11 :: u 12 :: u 13 :: u 14 :: u 15 :: u 16 :: u 17 :: u 18 :: u 19 :: u 20 :: u 21 :: u 22 :: u 23 :: u 24 :: u 25 :: u 26 :: u 27 :: u 28 :: List.replicate 6 un).toArray, []⟩ ∧ HA w [(q4, 32, rl (numS s % 65536 ^ k)), (q1, 32, rl 0)] w') 16 ?_ ?_ ?_
  · exact ⟨fun i => (([(10, undef), (11, undef), (12, undef), (13, undef), (14, undef), (15, undef), (16, undef), (17, undef), (18, undef), (19, undef), (20, undef), (21, undef), (22, undef), (23, undef), (24, undef), (25, undef), (26, undef), (27, undef), (28, undef)] : List (Nat × Value)).find? (·.1 == i)).elim undef (·.2), by kernel_rfl, (by rw [Nat.pow_zero, Nat.mod_one]; exact h6)⟩
  · rintro k hk _ w7 ⟨u, rfl, h8⟩
    refine wp_seq ?_
    refine wp_seq ?_
    -- region 5
    refine wl_region ?_
    refine wl_val (iN .i64 k) (by kernel_rfl) (by kernel_rfl) ?_
    refine wl_val (.bool true) (by kernel_rfl) (run_lss (k := .i64) (a := k) (b := 16) (by kernel_rfl) (by kernel_rfl) true (decide_eq_true hk)) ?_
    refine wl_nil ?_
    refine then_at (F := ⟨(.string s :: un :: pt q1 :: .bool false :: pt q4 :: iN .i64 k :: .string s :: iN .i64 s.size :: .bool false :: un :: iN .i64 k :: .bool true :: u 12 :: u 13 :: u 14 :: u 15 :: u 16 :: u 17 :: u 18 :: u 19 :: u 20 :: u 21 :: u 22 :: u 23 :: u 24 :: u 25 :: u 26 :: u 27 :: u 28 :: List.replicate 6 un).toArray, []⟩) (by kernel_rfl) ?_
    refine wp_cond_true (by kernel_rfl) ?_
    refine wp_skip ?_
    refine then_at (F := ⟨(.string s :: un :: pt q1 :: .bool false :: pt q4 :: iN .i64 k :: .string s :: iN .i64 s.size :: .bool false :: un :: iN .i64 k :: .bool true :: u 12 :: u 13 :: u 14 :: u 15 :: u 16 :: u 17 :: u 18 :: u 19 :: u 20 :: u 21 :: u 22 :: u 23 :: u 24 :: u 25 :: u 26 :: u 27 :: u 28 :: List.replicate 6 un).toArray, []⟩) (by kernel_rfl) ?_
    refine wp_seq ?_
    refine wp_block ?_
    -- region 7
    refine wp_region_ghost (fun _ : Nat → Nat => (⟨(.string s :: un :: pt q1 :: .bool false :: pt q4 :: iN .i64 k :: .string s :: iN .i64 s.size :: .bool false :: un :: iN .i64 k :: .bool true :: u 12 :: u 13 :: iN .i64 k :: .string s :: iN .i64 k :: iN .i64 (2 * k) :: iN .u8 (sb s (2 * k)) :: iN .u32 (sb s (2 * k)) :: .string s :: iN .i64 k :: iN .i64 (2 * k) :: iN .i64 ((2 * k) + 1) :: iN .u8 (sb s ((2 * k) + 1)) :: iN .u32 (sb s ((2 * k) + 1)) :: iN .u32 ((sb s ((2 * k) + 1)) * 2 ^ 8) :: iN .u32 ((sb s (2 * k)) ||| ((sb s ((2 * k) + 1)) * 2 ^ 8)) :: .pointer (some ⟨q4, k, none⟩) :: List.replicate 6 un).toArray, []⟩ : Act)) (GP w [(q4, 32, rl (numS s % 65536 ^ k)), (q1, 32, rl 0)] 15 0 q4 32 (rl (numS s % 65536 ^ (k + 1)))) [iN .i64 k, .string s, iN .i64 k, iN .i64 (2 * k), iN .u8 (sb s (2 * k)), iN .u32 (sb s (2 * k)), .string s, iN .i64 k, iN .i64 (2 * k), iN .i64 ((2 * k) + 1), iN .u8 (sb s ((2 * k) + 1)), iN .u32 (sb s ((2 * k) + 1)), iN .u32 ((sb s ((2 * k) + 1)) * 2 ^ 8), iN .u32 ((sb s (2 * k)) ||| ((sb s ((2 * k) + 1)) * 2 ^ 8)), .pointer (some ⟨q4, k, none⟩), undef] (by kernel_rfl) (by kernel_rfl) (by kernel_rfl) (by kernel_rfl) (fun _ _ _ _ h => h) (fun d hd => GP.start h8.drew (hd 15 (by decide))) ?_ ?_
    · refine AllGhost.cons (gp_plain (v := iN .i64 k) (by decide) (fun _ => by kernel_rfl) (fun _ => by kernel_rfl) (fun _ _ => (by kernel_rfl))) ?_
      refine AllGhost.cons (gp_plain (v := .string s) (by decide) (fun _ => by kernel_rfl) (fun _ => by kernel_rfl) (fun _ _ => (by kernel_rfl))) ?_
      refine AllGhost.cons (gp_plain (v := iN .i64 k) (by decide) (fun _ => by kernel_rfl) (fun _ => by kernel_rfl) (fun _ _ => (by kernel_rfl))) ?_
      refine AllGhost.cons (gp_plain (v := iN .i64 (2 * k)) (by decide) (fun _ => by kernel_rfl) (fun _ => by kernel_rfl) (fun _ _ => (run_mul (k := .i64) (a := 2) (b := k) (by kernel_rfl) (by kernel_rfl) (by simp only [top]; omega)))) ?_
      refine AllGhost.cons (gp_plain (v := iN .u8 (sb s (2 * k))) (by decide) (fun _ => by kernel_rfl) (fun _ => by kernel_rfl) (fun _ _ => (run_sidx (s := s) (a := 2 * k) (by kernel_rfl) (by kernel_rfl) (by omega)))) ?_
      refine AllGhost.cons (gp_plain (v := iN .u32 (sb s (2 * k))) (by decide) (fun _ => by kernel_rfl) (fun _ => by kernel_rfl) (fun _ _ => (run_conv (k := .u8) (a := sb s (2 * k)) .u32 Tryd.underlying5 Tryd.underlying30 (by kernel_rfl) (Nat.lt_trans (sb_lt s _) (by decide))))) ?_
      refine AllGhost.cons (gp_plain (v := .string s) (by decide) (fun _ => by kernel_rfl) (fun _ => by kernel_rfl) (fun _ _ => (by kernel_rfl))) ?_
      refine AllGhost.cons (gp_plain (v := iN .i64 k) (by decide) (fun _ => by kernel_rfl) (fun _ => by kernel_rfl) (fun _ _ => (by kernel_rfl))) ?_
      refine AllGhost.cons (gp_plain (v := iN .i64 (2 * k)) (by decide) (fun _ => by kernel_rfl) (fun _ => by kernel_rfl) (fun _ _ => (run_mul (k := .i64) (a := 2) (b := k) (by kernel_rfl) (by kernel_rfl) (by simp only [top]; omega)))) ?_
      refine AllGhost.cons (gp_plain (v := iN .i64 ((2 * k) + 1)) (by decide) (fun _ => by kernel_rfl) (fun _ => by kernel_rfl) (fun _ _ => (run_add (k := .i64) (a := 2 * k) (b := 1) (by kernel_rfl) (by kernel_rfl) (by simp only [top]; omega)))) ?_
      refine AllGhost.cons (gp_plain (v := iN .u8 (sb s ((2 * k) + 1))) (by decide) (fun _ => by kernel_rfl) (fun _ => by kernel_rfl) (fun _ _ => (run_sidx (s := s) (a := (2 * k) + 1) (by kernel_rfl) (by kernel_rfl) (by omega)))) ?_
      refine AllGhost.cons (gp_plain (v := iN .u32 (sb s ((2 * k) + 1))) (by decide) (fun _ => by kernel_rfl) (fun _ => by kernel_rfl) (fun _ _ => (run_conv (k := .u8) (a := sb s ((2 * k) + 1)) .u32 Tryd.underlying5 Tryd.underlying30 (by kernel_rfl) (Nat.lt_trans (sb_lt s _) (by decide))))) ?_
      refine AllGhost.cons (gp_plain (v := iN .u32 ((sb s ((2 * k) + 1)) * 2 ^ 8)) (by decide) (fun _ => by kernel_rfl) (fun _ => by kernel_rfl) (fun _ _ => (run_shl (k2 := .u64) (k := .u32) (a := sb s ((2 * k) + 1)) (b := 8) (by kernel_rfl) (by kernel_rfl) (by decide) (sb_shl_top s _)))) ?_
      refine AllGhost.cons (gp_plain (v := iN .u32 ((sb s (2 * k)) ||| ((sb s ((2 * k) + 1)) * 2 ^ 8))) (by decide) (fun _ => by kernel_rfl) (fun _ => by kernel_rfl) (fun _ _ => (run_or32 (a := sb s (2 * k)) (b := (sb s ((2 * k) + 1)) * 2 ^ 8) (by kernel_rfl) (by kernel_rfl) (Nat.lt_trans (sb_lt s _) (by decide)) (sb_shl s _)))) ?_
      refine AllGhost.cons (gp_plain (v := .pointer (some ⟨q4, k, none⟩)) (by decide) (fun _ => by kernel_rfl) (fun _ => by kernel_rfl) (fun _ _ => (run_addr_arr (q := q4) (a := k) Tryd.underlying32 (fun w => Tryd.sizeOf30 w) (by kernel_rfl) (by kernel_rfl) (by omega)))) ?_
      refine AllGhost.cons (gp_put (k := .u32) (z := (((sb s (2 * k)) ||| ((sb s ((2 * k) + 1)) * 2 ^ 8) : Nat) : Int)) (off := k) rfl (by rw [rl_size]; omega) (of_put s k hk) (fun w => Tryd.sizeOf30 w) (fun _ => by kernel_rfl) (fun _ => by kernel_rfl) (fun _ => by kernel_rfl) (fun _ => by kernel_rfl)) ?_
      exact AllGhost.nil
    intro _ w9 g10
    have h11 : HA w [(q4, 32, rl (numS s % 65536 ^ (k + 1))), (q1, 32, rl 0)] w9 := g10
    clear g10
    refine block_normal ?_
    refine then_at (F := ⟨(.string s :: un :: pt q1 :: .bool false :: pt q4 :: iN .i64 k :: .string s :: iN .i64 s.size :: .bool false :: un :: iN .i64 k :: .bool true :: u 12 :: u 13 :: iN .i64 k :: .string s :: iN .i64 k :: iN .i64 (2 * k) :: iN .u8 (sb s (2 * k)) :: iN .u32 (sb s (2 * k)) :: .string s :: iN .i64 k :: iN .i64 (2 * k) :: iN .i64 ((2 * k) + 1) :: iN .u8 (sb s ((2 * k) + 1)) :: iN .u32 (sb s ((2 * k) + 1)) :: iN .u32 ((sb s ((2 * k) + 1)) * 2 ^ 8) :: iN .u32 ((sb s (2 * k)) ||| ((sb s ((2 * k) + 1)) * 2 ^ 8)) :: .pointer (some ⟨q4, k, none⟩) :: List.replicate 6 un).toArray, []⟩) (by kernel_rfl) ?_
    -- region 6
    refine wl_region ?_
    refine wl_val (iN .i64 k) (by kernel_rfl) (by kernel_rfl) ?_
    refine wl_val (iN .i64 (k + 1)) (by kernel_rfl) (run_add (k := .i64) (a := k) (b := 1) (by kernel_rfl) (by kernel_rfl) (by simp only [top]; omega)) ?_
    refine wl_val (iN .i64 (k + 1)) (by kernel_rfl) (by kernel_rfl) ?_
    refine wl_nil ?_
    exact then_I ⟨fun i => (([(10, iN .i64 k), (11, .bool true), (12, iN .i64 k), (13, iN .i64 (k + 1)), (14, iN .i64 k), (15, .string s), (16, iN .i64 k), (17, iN .i64 (2 * k)), (18, iN .u8 (sb s (2 * k))), (19, iN .u32 (sb s (2 * k))), (20, .string s), (21, iN .i64 k), (22, iN .i64 (2 * k)), (23, iN .i64 ((2 * k) + 1)), (24, iN .u8 (sb s ((2 * k) + 1))), (25, iN .u32 (sb s ((2 * k) + 1))), (26, iN .u32 ((sb s ((2 * k) + 1)) * 2 ^ 8)), (27, iN .u32 ((sb s (2 * k)) ||| ((sb s ((2 * k) + 1)) * 2 ^ 8))), (28, .pointer (some ⟨q4, k, none⟩))] : List (Nat × Value)).find? (·.1 == i)).elim undef (·.2), by kernel_rfl, h11⟩
  · rintro _ w12 ⟨u, rfl, h13⟩
    refine wp_seq ?_
    refine wp_seq ?_
    -- region 5
    refine wl_region ?_
    refine wl_val (iN .i64 16) (by kernel_rfl) (by kernel_rfl) ?_
    refine wl_val (.bool false) (by kernel_rfl) (run_lss (k := .i64) (a := 16) (b := 16) (by kernel_rfl) (by kernel_rfl) false (by decide)) ?_
    refine wl_nil ?_
    refine then_at (F := ⟨(.string s :: un :: pt q1 :: .bool false :: pt q4 :: iN .i64 16 :: .string s :: iN .i64 s.size :: .bool false :: un :: iN .i64 16 :: .bool false :: u 12 :: u 13 :: u 14 :: u 15 :: u 16 :: u 17 :: u 18 :: u 19 :: u 20 :: u 21 :: u 22 :: u 23 :: u 24 :: u 25 :: u 26 :: u 27 :: u 28 :: List.replicate 6 un).toArray, []⟩) (by kernel_rfl) ?_
    refine wp_cond_false (by kernel_rfl) ?_
    refine wp_exit ?_
    repeat first | refine then_exit ?_ | refine block_exit ?_ | refine block_exit_ne (by decide) ?_
    refine then_at (F := ⟨(.string s :: un :: pt q1 :: .bool false :: pt q4 :: iN .i64 16 :: .string s :: iN .i64 s.size :: .bool false :: un :: iN .i64 16 :: .bool false :: u 12 :: u 13 :: u 14 :: u 15 :: u 16 :: u 17 :: u 18 :: u 19 :: u 20 :: u 21 :: u 22 :: u 23 :: u 24 :: u 25 :: u 26 :: u 27 :: u 28 :: List.replicate 6 un).toArray, []⟩) (by kernel_rfl) ?_
    refine wp_seq ?_
    refine wp_seq ?_
    -- region 8
    refine wp_region_sure ⟨(.string s :: un :: pt q1 :: .bool false :: pt q4 :: iN .i64 16 :: .string s :: iN .i64 s.size :: .bool false :: un :: iN .i64 16 :: .bool false :: u 12 :: u 13 :: u 14 :: u 15 :: u 16 :: u 17 :: u 18 :: u 19 :: u 20 :: u 21 :: u 22 :: u 23 :: u 24 :: u 25 :: u 26 :: u 27 :: u 28 :: rarr (numS s % 65536 ^ 16) :: rarr P :: .bool false :: .bool true :: List.replicate 2 un).toArray, []⟩ (HA w [(q4, 32, rl (numS s % 65536 ^ 16)), (q1, 32, rl 0)]) [rarr (numS s % 65536 ^ 16), rarr P, .bool false, .bool true] (by kernel_rfl) (by kernel_rfl) (by kernel_rfl) (by kernel_rfl) (fun _ _ _ h => h) h13.drew ?_ ?_
    · refine AllSure.cons (OpSure.take (v := rarr (numS s % 65536 ^ 16)) (by kernel_rfl) (by kernel_rfl) (fun _ h => run_load_blk (by kernel_rfl) (h.get 0 rfl) Tryd.underlying32 rfl (info_rl _))) ?_
      refine AllSure.cons (sure_call (v := rarr P) (by kernel_rfl) (by kernel_rfl) enter85 HA.keep #[] (by kernel_rfl) (fun w' h' => rprime_any w')) ?_
      refine AllSure.cons (sure_call (v := .bool false) (by kernel_rfl) (by kernel_rfl) enter84 HA.keep #[rarr (numS s % 65536 ^ 16), rarr P] (by kernel_rfl) (fun w' h' => rless_no (numS s % 65536 ^ 16) P (Nat.mod_lt _ (by decide)) (by decide) hP w')) ?_
      refine AllSure.cons (OpSure.take (v := .bool true) (by kernel_rfl) (by kernel_rfl) (fun _ _ => (by kernel_rfl))) ?_
      exact AllSure.nil
    intro w14 h15
    refine then_at (F := ⟨(.string s :: un :: pt q1 :: .bool false :: pt q4 :: iN .i64 16 :: .string s :: iN .i64 s.size :: .bool false :: un :: iN .i64 16 :: .bool false :: u 12 :: u 13 :: u 14 :: u 15 :: u 16 :: u 17 :: u 18 :: u 19 :: u 20 :: u 21 :: u 22 :: u 23 :: u 24 :: u 25 :: u 26 :: u 27 :: u 28 :: rarr (numS s % 65536 ^ 16) :: rarr P :: .bool false :: .bool true :: List.replicate 2 un).toArray, []⟩) (by kernel_rfl) ?_
    refine wp_cond_true (by kernel_rfl) ?_
    refine wp_seq ?_
    -- region 9
    refine wl_region ?_
    refine wl_val (rarr 0) (by kernel_rfl) run_build0 ?_
    refine wl_fill (c' := rl 0) h15 1 rfl (by kernel_rfl) (by kernel_rfl) (by kernel_rfl) (rl_sz _ _) (info_rl _) (one_rl _) ?_
    intro w16 (h17 : HA w [(q4, 32, rl (numS s % 65536 ^ 16)), (q1, 32, rl 0)] w16)
    refine wl_val (.bool false) (by kernel_rfl) (by kernel_rfl) ?_
    refine wl_nil ?_
    refine then_at (F := ⟨(.string s :: un :: pt q1 :: .bool false :: pt q4 :: iN .i64 16 :: .string s :: iN .i64 s.size :: .bool false :: un :: iN .i64 16 :: .bool false :: u 12 :: u 13 :: u 14 :: u 15 :: u 16 :: u 17 :: u 18 :: u 19 :: u 20 :: u 21 :: u 22 :: u 23 :: u 24 :: u 25 :: u 26 :: u 27 :: u 28 :: rarr (numS s % 65536 ^ 16) :: rarr P :: .bool false :: .bool true :: rarr 0 :: List.replicate 1 un).toArray, []⟩) (by kernel_rfl) ?_
    refine wp_ret ?_
    repeat first | refine then_ret ?_ | refine block_ret ?_
    exact bodyPost_ret (v := .tuple #[rarr 0, .bool false]) (res_cell_tmp (p := 2) (r := 3) (by kernel_rfl) (by kernel_rfl) (by kernel_rfl) (h17.get 1 rfl) Tryd.underlying32 rfl (info_rl _)) rfl ⟨rfl, h17.old⟩

set_option linter.unusedVariables false in
set_option maxRecDepth 100000 in
set_option maxHeartbeats 2000000 in
theorem rof_len (s : ByteArray) (hl : s.size ≠ 32) (w : World) : Calls Tryd.prog 45 #[.string s] w fun e w' => e = .returned (.tuple #[rarr 0, .bool false]) ∧ Below w.heap.size w w' := by
  have H0 := HA.start w
  go_enter Tryd.func45, Tryd.ntmps45
  refine wp_seq ?_
  -- region 0
  refine wl_region ?_
  refine wl_make H0 32 (by kernel_rfl) run_alloc32 ?_
  intro q1 w2 h3
  refine wl_val (.bool false) (by kernel_rfl) (by kernel_rfl) ?_
  refine wl_nil ?_
  refine then_at (F := ⟨(.string s :: un :: pt q1 :: .bool false :: List.replicate 31 un).toArray, []⟩) (by kernel_rfl) ?_
  refine wp_seq ?_
  refine wp_seq ?_
  -- region 1
  refine wl_region ?_
  refine wl_val (.string s) (by kernel_rfl) (by kernel_rfl) ?_
  refine wl_val (iN .i64 s.size) (by kernel_rfl) (run_len (s := s) (by kernel_rfl)) ?_
  refine wl_val (.bool true) (by kernel_rfl) (run_nei (k := .i64) (a := s.size) (b := 32) (by kernel_rfl) (by kernel_rfl) true (decide_eq_true hl)) ?_
  refine wl_nil ?_
  refine then_at (F := ⟨(.string s :: un :: pt q1 :: .bool false :: un :: un :: .string s :: iN .i64 s.size :: .bool true :: List.replicate 26 un).toArray, []⟩) (by kernel_rfl) ?_
  refine wp_cond_true (by kernel_rfl) ?_
  refine wp_seq ?_
  -- region 2
  refine wl_region ?_
  refine wl_val (rarr 0) (by kernel_rfl) run_build0 ?_
  refine wl_fill (c' := rl 0) h3 0 rfl (by kernel_rfl) (by kernel_rfl) (by kernel_rfl) (rl_sz _ _) (info_rl _) (one_rl _) ?_
  intro w4 (h5 : HA w [(q1, 32, rl 0)] w4)
  refine wl_val (.bool false) (by kernel_rfl) (by kernel_rfl) ?_
  refine wl_nil ?_
  refine then_at (F := ⟨(.string s :: un :: pt q1 :: .bool false :: un :: un :: .string s :: iN .i64 s.size :: .bool true :: rarr 0 :: List.replicate 25 un).toArray, []⟩) (by kernel_rfl) ?_
  refine wp_ret ?_
  repeat first | refine then_ret ?_ | refine block_ret ?_
  exact bodyPost_ret (v := .tuple #[rarr 0, .bool false]) (res_cell_tmp (p := 2) (r := 3) (by kernel_rfl) (by kernel_rfl) (by kernel_rfl) (h5.get 0 rfl) Tryd.underlying32 rfl (info_rl _)) rfl ⟨rfl, h5.old⟩
end Go.Proofs.YtpaendmdcdeemaaDoor

namespace Go.Proofs.YtpaendmdcdeemaaDoor
open Go.RowKit Num

def bsub (a b k : Nat) : Nat := a % 65536 ^ k + 65536 ^ k - b % 65536 ^ k
/-- k digits of the difference are laid -/
def mc (a b k : Nat) : Array Value := cl .u32 (mix 65536 k (bsub a b k) (digs 65536 16 a))
theorem mc_zero (a b : Nat) : mc a b 0 = rl a := rfl
theorem mc_size (a b k : Nat) (hk : k ≤ 16) : (mc a b k).size = 16 := by
  unfold mc
  rw [cl_size, mix_length _ _ _ _ (by rw [digs_length]; exact hk), digs_length]
theorem mc_get (a b k : Nat) (hk : k < 16) : (mc a b k)[k]? = some (iN .u32 (a / 65536 ^ k % 65536)) := by
  unfold mc
  rw [cl_get .u32 _ k (by rw [mix_length _ _ _ _ (by rw [digs_length]; omega), digs_length]; exact hk), mix_get _ _ _ _ (by rw [digs_length]; exact hk), digs_get]
  rfl
/-- what is lent, nought at first -/
def brr (a b : Nat) : Nat → Nat
  | 0 => 0
  | k + 1 => bor 65536 a b (k + 1)
theorem brr_eq (a b k : Nat) : brr a b k = bor 65536 a b k := by
  cases k with
  | zero => unfold bor; rw [Nat.pow_zero, Nat.mod_one, Nat.mod_one]; rfl
  | succ k => rfl
/-- a digit with what is lent -/
def dsub (a b k : Nat) : Nat := a / 65536 ^ k % 65536 + 65536 - b / 65536 ^ k % 65536 - brr a b k
theorem bor16_le (a b k : Nat) : brr a b k ≤ 1 := by
  rw [brr_eq]
  unfold bor
  split <;> omega
theorem mc_put (a b k : Nat) (hk : k < 16) : (mc a b k).setIfInBounds k (.int .u32 ((dsub a b k &&& 65535 : Nat) : Int)) = mc a b (k + 1) := by
  have h := (sub_step 65536 a b k (by decide)).1
  have h2 := mix_set 65536 k (bsub a b k) (bsub a b (k + 1)) (dsub a b k % 65536) (digs 65536 16 a) (by decide) (by rw [digs_length]; exact hk) (by unfold dsub; rw [brr_eq]; exact h)
  unfold mc
  rw [← h2, and16]
  simp [cl, List.map_set]
theorem mc_end (a b : Nat) (ha : a < 65536 ^ 16) (hb : b ≤ a) : mc a b 16 = rl (a - b) := by
  unfold mc mix rl
  rw [List.drop_eq_nil_of_le (by rw [digs_length]; exact Nat.le_refl _), List.append_nil]
  congr 1
  refine digs_mod 65536 16 _ _ (by decide) ?_
  unfold bsub
  rw [Nat.mod_eq_of_lt ha, Nat.mod_eq_of_lt (Nat.lt_of_le_of_lt hb ha), show a + 65536 ^ 16 - b = (a - b) + 65536 ^ 16 by omega, Nat.add_mod_right]
theorem dsub_bor (a b k : Nat) : 1 - dsub a b k / 2 ^ 16 = brr a b (k + 1) := by
  have h := (sub_step 65536 a b k (by decide)).2
  have h1 := bor16_le a b k
  have h2 : a / 65536 ^ k % 65536 < 65536 := Nat.mod_lt _ (by decide)
  have h3 : b / 65536 ^ k % 65536 < 65536 := Nat.mod_lt _ (by decide)
  rw [← brr_eq a b k] at h
  rw [brr_eq a b (k + 1), h]
  unfold dsub
  split <;> omega
theorem dsub_lt (a b k : Nat) : dsub a b k < 131072 := by
  have h2 : a / 65536 ^ k % 65536 < 65536 := Nat.mod_lt _ (by decide)
  unfold dsub
  omega

/-- a loop whose measure gets less -/
theorem rounds_more {P : Program} {Q : Exit → Act → World → Prop} {c : Code} : ∀ (n : Nat) (a : Act) (w : World), Code.rounds P c Q n a w → Code.rounds P c Q (n + 1) a w
  | 0, _, _, h => h.elim
  | n + 1, a, w, h => by
    rw [rounds_succ] at h ⊢
    exact Code.wp_mono (fun e a w he => by cases e <;> first | exact rounds_more n a w he | exact he) h
theorem rounds_le {P : Program} {Q : Exit → Act → World → Prop} {c : Code} {n m : Nat} (h : n ≤ m) {a : Act} {w : World} (hr : Code.rounds P c Q n a w) : Code.rounds P c Q m a w := by
  induction h with
  | refl => exact hr
  | step _ ih => exact rounds_more _ _ _ ih
theorem wp_while {P : Program} {Q : Exit → Act → World → Prop} {c : Code} (I : Nat → Act → World → Prop) (m : Nat) {a : Act} {w : World} (h0 : I m a w)
    (round : ∀ m a w, I m a w → c.wp P (Exit.then (fun a' w' => ∃ m', m' < m ∧ I m' a' w') Q) a w) : (Code.loop c).wp P Q a w := by
  have key : ∀ m a w, I m a w → Code.rounds P c Q (m + 1) a w := by
    intro m
    induction m using Nat.strongRecOn with
    | ind m ih =>
      intro a w hI
      rw [rounds_succ]
      refine Code.wp_mono (fun e a w he => ?_) (round m a w hI)
      cases e with
      | normal =>
        obtain ⟨m', hm, h'⟩ := he
        exact rounds_le hm (ih m' hm a w h')
      | _ => exact he
  exact wp_loop_rounds (m + 1) (key m a w h0)
end Go.Proofs.YtpaendmdcdeemaaDoor

namespace Go.Proofs.YtpaendmdcdeemaaDoor
open Go.RowKit Num

set_option linter.unusedVariables false in
set_option maxRecDepth 100000 in
set_option maxHeartbeats 2000000 in
theorem rminus_any (a b : Nat) (ha : a < 65536 ^ 16) (hb : b ≤ a) (w : World) : Calls Tryd.prog 93 #[rarr a, rarr b] w fun e w' => e = .returned (rarr (a - b)) ∧ Below w.heap.size w w' := by
  have H0 := HA.start w
  go_enter Tryd.func93, Tryd.ntmps93
  refine wp_seq ?_
  -- region 0
  refine wl_region ?_
  refine wl_make H0 32 (by kernel_rfl) (run_box32 (c := rl a) (by kernel_rfl)) ?_
  intro q1 w2 h3
  refine wl_make h3 32 (by kernel_rfl) (run_box32 (c := rl b) (by kernel_rfl)) ?_
  intro q4 w5 h6
  refine wl_make h6 32 (by kernel_rfl) run_alloc32 ?_
  intro q7 w8 h9
  refine wl_nil ?_
  refine then_at (F := ⟨(rarr a :: rarr b :: pt q1 :: pt q4 :: pt q7 :: List.replicate 25 un).toArray, []⟩) (by kernel_rfl) ?_
  refine wp_seq ?_
  -- region 1
  refine wl_region ?_
  refine wl_val (iN .u32 0) (by kernel_rfl) (by kernel_rfl) ?_
  refine wl_nil ?_
  refine then_at (F := ⟨(rarr a :: rarr b :: pt q1 :: pt q4 :: pt q7 :: iN .u32 0 :: List.replicate 24 un).toArray, []⟩) (by kernel_rfl) ?_
  refine wp_seq ?_
  refine wp_seq ?_
  -- region 2
  refine wl_region ?_
  refine wl_val (iN .i64 0) (by kernel_rfl) (by kernel_rfl) ?_
  refine wl_nil ?_
  refine then_at (F := ⟨(rarr a :: rarr b :: pt q1 :: pt q4 :: pt q7 :: iN .u32 0 :: iN .i64 0 :: List.replicate 23 un).toArray, []⟩) (by kernel_rfl) ?_
  refine wp_block ?_
  refine wp_count (fun k A w' => ∃ u : Nat → Value, A = ⟨(rarr a :: rarr b :: pt q1 :: pt q4 :: pt q7 :: iN .u32 (brr a b k) :: iN .i64 k :: u 7 :: u 8 :: u 9 :: u 10 :: u 11 :: u 12 :: u 13 :: u 14 :: u 15 :: u 16 :: u 17 :: u 18 :: u 19 :: u 20 :: u 21 :: u 22 :: u 23 :: u 24 :: u 25 :: u 26 :: u 27 :: u 28 :: List.replicate 1 un).toArray, []⟩ ∧ HA w [(q7, 32, rl 0), (q4, 32, rl b), (q1, 32, mc a b k)] w') 16 ?_ ?_ ?_
  · exact ⟨fun i => (([(7, undef), (8, undef), (9, undef), (10, undef), (11, undef), (12, undef), (13, undef), (14, undef), (15, undef), (16, undef), (17, undef), (18, undef), (19, undef), (20, undef), (21, undef), (22, undef), (23, undef), (24, undef), (25, undef), (26, undef), (27, undef), (28, undef)] : List (Nat × Value)).find? (·.1 == i)).elim undef (·.2), by kernel_rfl, h9⟩
  · rintro k hk _ w10 ⟨u, rfl, h11⟩
    have hc := bor16_le a b k
    have hx : a / 65536 ^ k % 65536 < 65536 := Nat.mod_lt _ (by decide)
    have hy : b / 65536 ^ k % 65536 < 65536 := Nat.mod_lt _ (by decide)
    have hd := dsub_lt a b k
    have hbb := dsub_bor a b k
    rw [← hbb]
    refine wp_seq ?_
    refine wp_seq ?_
    -- region 3
    refine wl_region ?_
    refine wl_val (iN .i64 k) (by kernel_rfl) (by kernel_rfl) ?_
    refine wl_val (.bool true) (by kernel_rfl) (run_lss (k := .i64) (a := k) (b := 16) (by kernel_rfl) (by kernel_rfl) true (decide_eq_true hk)) ?_
    refine wl_nil ?_
    refine then_at (F := ⟨(rarr a :: rarr b :: pt q1 :: pt q4 :: pt q7 :: iN .u32 (brr a b k) :: iN .i64 k :: u 7 :: iN .i64 k :: .bool true :: u 10 :: u 11 :: u 12 :: u 13 :: u 14 :: u 15 :: u 16 :: u 17 :: u 18 :: u 19 :: u 20 :: u 21 :: u 22 :: u 23 :: u 24 :: u 25 :: u 26 :: u 27 :: u 28 :: List.replicate 1 un).toArray, []⟩) (by kernel_rfl) ?_
    refine wp_cond_true (by kernel_rfl) ?_
    refine wp_skip ?_
    refine then_at (F := ⟨(rarr a :: rarr b :: pt q1 :: pt q4 :: pt q7 :: iN .u32 (brr a b k) :: iN .i64 k :: u 7 :: iN .i64 k :: .bool true :: u 10 :: u 11 :: u 12 :: u 13 :: u 14 :: u 15 :: u 16 :: u 17 :: u 18 :: u 19 :: u 20 :: u 21 :: u 22 :: u 23 :: u 24 :: u 25 :: u 26 :: u 27 :: u 28 :: List.replicate 1 un).toArray, []⟩) (by kernel_rfl) ?_
    refine wp_seq ?_
    refine wp_block ?_
    refine wp_seq ?_
    -- region 5
    refine wp_region_sure ⟨(rarr a :: rarr b :: pt q1 :: pt q4 :: pt q7 :: iN .u32 (brr a b k) :: iN .i64 k :: iN .u32 (dsub a b k) :: iN .i64 k :: .bool true :: u 10 :: u 11 :: iN .i64 k :: .pointer (some ⟨q1, k, none⟩) :: iN .u32 (a / 65536 ^ k % 65536) :: iN .u32 ((a / 65536 ^ k % 65536) + 65536) :: iN .i64 k :: .pointer (some ⟨q4, k, none⟩) :: iN .u32 (b / 65536 ^ k % 65536) :: iN .u32 (((a / 65536 ^ k % 65536) + 65536) - (b / 65536 ^ k % 65536)) :: iN .u32 (brr a b k) :: iN .u32 (dsub a b k) :: u 22 :: u 23 :: u 24 :: u 25 :: u 26 :: u 27 :: u 28 :: List.replicate 1 un).toArray, []⟩ (HA w [(q7, 32, rl 0), (q4, 32, rl b), (q1, 32, mc a b k)]) [iN .i64 k, .pointer (some ⟨q1, k, none⟩), iN .u32 (a / 65536 ^ k % 65536), iN .u32 ((a / 65536 ^ k % 65536) + 65536), iN .i64 k, .pointer (some ⟨q4, k, none⟩), iN .u32 (b / 65536 ^ k % 65536), iN .u32 (((a / 65536 ^ k % 65536) + 65536) - (b / 65536 ^ k % 65536)), iN .u32 (brr a b k), iN .u32 (dsub a b k), iN .u32 (dsub a b k)] (by kernel_rfl) (by kernel_rfl) (by kernel_rfl) (by kernel_rfl) (fun _ _ _ h => h) h11.drew ?_ ?_
    · refine AllSure.cons (OpSure.take (v := iN .i64 k) (by kernel_rfl) (by kernel_rfl) (fun _ _ => (by kernel_rfl))) ?_
      refine AllSure.cons (OpSure.take (v := .pointer (some ⟨q1, k, none⟩)) (by kernel_rfl) (by kernel_rfl) (fun _ _ => (run_addr_arr (q := q1) (a := k) Tryd.underlying32 (fun w => Tryd.sizeOf30 w) (by kernel_rfl) (by kernel_rfl) (by omega)))) ?_
      refine AllSure.cons (OpSure.take (v := iN .u32 (a / 65536 ^ k % 65536)) (by kernel_rfl) (by kernel_rfl) (fun _ h => run_load1 (fun w => Tryd.isAgg30 w) (by kernel_rfl) (((h.get 2 rfl).cell k).trans (mc_get a b k hk)))) ?_
      refine AllSure.cons (OpSure.take (v := iN .u32 ((a / 65536 ^ k % 65536) + 65536)) (by kernel_rfl) (by kernel_rfl) (fun _ _ => (run_add (k := .u32) (a := a / 65536 ^ k % 65536) (b := 65536) (by kernel_rfl) (by kernel_rfl) (by simp only [top]; omega)))) ?_
      refine AllSure.cons (OpSure.take (v := iN .i64 k) (by kernel_rfl) (by kernel_rfl) (fun _ _ => (by kernel_rfl))) ?_
      refine AllSure.cons (OpSure.take (v := .pointer (some ⟨q4, k, none⟩)) (by kernel_rfl) (by kernel_rfl) (fun _ _ => (run_addr_arr (q := q4) (a := k) Tryd.underlying32 (fun w => Tryd.sizeOf30 w) (by kernel_rfl) (by kernel_rfl) (by omega)))) ?_
      refine AllSure.cons (OpSure.take (v := iN .u32 (b / 65536 ^ k % 65536)) (by kernel_rfl) (by kernel_rfl) (fun _ h => run_load1 (fun w => Tryd.isAgg30 w) (by kernel_rfl) (((h.get 1 rfl).cell k).trans (rl_get b k (by omega))))) ?_
      refine AllSure.cons (OpSure.take (v := iN .u32 (((a / 65536 ^ k % 65536) + 65536) - (b / 65536 ^ k % 65536))) (by kernel_rfl) (by kernel_rfl) (fun _ _ => (run_sub (k := .u32) (a := (a / 65536 ^ k % 65536) + 65536) (b := b / 65536 ^ k % 65536) (by kernel_rfl) (by kernel_rfl) (by omega) (by simp only [top]; omega)))) ?_
      refine AllSure.cons (OpSure.take (v := iN .u32 (brr a b k)) (by kernel_rfl) (by kernel_rfl) (fun _ _ => (by kernel_rfl))) ?_
      refine AllSure.cons (OpSure.take (v := iN .u32 (dsub a b k)) (by kernel_rfl) (by kernel_rfl) (fun _ _ => (run_sub (k := .u32) (a := a / 65536 ^ k % 65536 + 65536 - b / 65536 ^ k % 65536) (b := brr a b k) (by kernel_rfl) (by kernel_rfl) (by omega) (by simp only [top]; omega)))) ?_
      refine AllSure.cons (OpSure.take (v := iN .u32 (dsub a b k)) (by kernel_rfl) (by kernel_rfl) (fun _ _ => (by kernel_rfl))) ?_
      exact AllSure.nil
    intro w12 h13
    refine then_at (F := ⟨(rarr a :: rarr b :: pt q1 :: pt q4 :: pt q7 :: iN .u32 (brr a b k) :: iN .i64 k :: iN .u32 (dsub a b k) :: iN .i64 k :: .bool true :: u 10 :: u 11 :: iN .i64 k :: .pointer (some ⟨q1, k, none⟩) :: iN .u32 (a / 65536 ^ k % 65536) :: iN .u32 ((a / 65536 ^ k % 65536) + 65536) :: iN .i64 k :: .pointer (some ⟨q4, k, none⟩) :: iN .u32 (b / 65536 ^ k % 65536) :: iN .u32 (((a / 65536 ^ k % 65536) + 65536) - (b / 65536 ^ k % 65536)) :: iN .u32 (brr a b k) :: iN .u32 (dsub a b k) :: u 22 :: u 23 :: u 24 :: u 25 :: u 26 :: u 27 :: u 28 :: List.replicate 1 un).toArray, []⟩) (by kernel_rfl) ?_
    refine wp_seq ?_
    -- region 6
    refine wl_region ?_
    refine wl_val (iN .i64 k) (by kernel_rfl) (by kernel_rfl) ?_
    refine wl_val (iN .u32 (dsub a b k)) (by kernel_rfl) (by kernel_rfl) ?_
    refine wl_val (iN .u32 (dsub a b k &&& 65535)) (by kernel_rfl) (run_and32 (a := dsub a b k) (b := 65535) (by kernel_rfl) (by kernel_rfl) (by omega) (by decide)) ?_
    refine wl_val (.pointer (some ⟨q1, k, none⟩)) (by kernel_rfl) (run_addr_arr (q := q1) (a := k) Tryd.underlying32 (fun w => Tryd.sizeOf30 w) (by kernel_rfl) (by kernel_rfl) (by omega)) ?_
    refine wl_put (k := .u32) (z := ((dsub a b k &&& 65535 : Nat) : Int)) h13 2 rfl k (by rw [mc_size a b k (by omega)]; exact hk) (by kernel_rfl) (fun w => Tryd.sizeOf30 w) (by kernel_rfl) (by kernel_rfl) ?_
    intro w14 h15
    have h16 : HA w [(q7, 32, rl 0), (q4, 32, rl b), (q1, 32, mc a b (k + 1))] w14 := (by rw [← mc_put a b k hk]; exact h15)
    clear h15
    refine wl_nil ?_
    refine then_at (F := ⟨(rarr a :: rarr b :: pt q1 :: pt q4 :: pt q7 :: iN .u32 (brr a b k) :: iN .i64 k :: iN .u32 (dsub a b k) :: iN .i64 k :: .bool true :: u 10 :: u 11 :: iN .i64 k :: .pointer (some ⟨q1, k, none⟩) :: iN .u32 (a / 65536 ^ k % 65536) :: iN .u32 ((a / 65536 ^ k % 65536) + 65536) :: iN .i64 k :: .pointer (some ⟨q4, k, none⟩) :: iN .u32 (b / 65536 ^ k % 65536) :: iN .u32 (((a / 65536 ^ k % 65536) + 65536) - (b / 65536 ^ k % 65536)) :: iN .u32 (brr a b k) :: iN .u32 (dsub a b k) :: iN .i64 k :: iN .u32 (dsub a b k) :: iN .u32 (dsub a b k &&& 65535) :: .pointer (some ⟨q1, k, none⟩) :: u 26 :: u 27 :: u 28 :: List.replicate 1 un).toArray, []⟩) (by kernel_rfl) ?_
    -- region 7
    refine wl_region ?_
    refine wl_val (iN .u32 (dsub a b k)) (by kernel_rfl) (by kernel_rfl) ?_
    refine wl_val (iN .u32 ((dsub a b k) / 2 ^ 16)) (by kernel_rfl) (run_shr (k2 := .u64) (k := .u32) (a := dsub a b k) (b := 16) (by kernel_rfl) (by kernel_rfl) (by decide)) ?_
    refine wl_val (iN .u32 (1 - ((dsub a b k) / 2 ^ 16))) (by kernel_rfl) (run_sub (k := .u32) (a := 1) (b := (dsub a b k) / 2 ^ 16) (by kernel_rfl) (by kernel_rfl) (by omega) (by simp only [top]; omega)) ?_
    refine wl_val (iN .u32 (1 - ((dsub a b k) / 2 ^ 16))) (by kernel_rfl) (by kernel_rfl) ?_
    refine wl_nil ?_
    refine block_normal ?_
    refine then_at (F := ⟨(rarr a :: rarr b :: pt q1 :: pt q4 :: pt q7 :: iN .u32 (1 - ((dsub a b k) / 2 ^ 16)) :: iN .i64 k :: iN .u32 (dsub a b k) :: iN .i64 k :: .bool true :: u 10 :: u 11 :: iN .i64 k :: .pointer (some ⟨q1, k, none⟩) :: iN .u32 (a / 65536 ^ k % 65536) :: iN .u32 ((a / 65536 ^ k % 65536) + 65536) :: iN .i64 k :: .pointer (some ⟨q4, k, none⟩) :: iN .u32 (b / 65536 ^ k % 65536) :: iN .u32 (((a / 65536 ^ k % 65536) + 65536) - (b / 65536 ^ k % 65536)) :: iN .u32 (brr a b k) :: iN .u32 (dsub a b k) :: iN .i64 k :: iN .u32 (dsub a b k) :: iN .u32 (dsub a b k &&& 65535) :: .pointer (some ⟨q1, k, none⟩) :: iN .u32 (dsub a b k) :: iN .u32 ((dsub a b k) / 2 ^ 16) :: iN .u32 (1 - ((dsub a b k) / 2 ^ 16)) :: List.replicate 1 un).toArray, []⟩) (by kernel_rfl) ?_
    -- region 4
    refine wl_region ?_
    refine wl_val (iN .i64 k) (by kernel_rfl) (by kernel_rfl) ?_
    refine wl_val (iN .i64 (k + 1)) (by kernel_rfl) (run_add (k := .i64) (a := k) (b := 1) (by kernel_rfl) (by kernel_rfl) (by simp only [top]; omega)) ?_
    refine wl_val (iN .i64 (k + 1)) (by kernel_rfl) (by kernel_rfl) ?_
    refine wl_nil ?_
    exact then_I ⟨fun i => (([(7, iN .u32 (dsub a b k)), (8, iN .i64 k), (9, .bool true), (10, iN .i64 k), (11, iN .i64 (k + 1)), (12, iN .i64 k), (13, .pointer (some ⟨q1, k, none⟩)), (14, iN .u32 (a / 65536 ^ k % 65536)), (15, iN .u32 ((a / 65536 ^ k % 65536) + 65536)), (16, iN .i64 k), (17, .pointer (some ⟨q4, k, none⟩)), (18, iN .u32 (b / 65536 ^ k % 65536)), (19, iN .u32 (((a / 65536 ^ k % 65536) + 65536) - (b / 65536 ^ k % 65536))), (20, iN .u32 (brr a b k)), (21, iN .u32 (dsub a b k)), (22, iN .i64 k), (23, iN .u32 (dsub a b k)), (24, iN .u32 (dsub a b k &&& 65535)), (25, .pointer (some ⟨q1, k, none⟩)), (26, iN .u32 (dsub a b k)), (27, iN .u32 ((dsub a b k) / 2 ^ 16)), (28, iN .u32 (1 - ((dsub a b k) / 2 ^ 16)))] : List (Nat × Value)).find? (·.1 == i)).elim undef (·.2), by kernel_rfl, h16⟩
  · rintro _ w17 ⟨u, rfl, h18⟩
    refine wp_seq ?_
    refine wp_seq ?_
    -- region 3
    refine wl_region ?_
    refine wl_val (iN .i64 16) (by kernel_rfl) (by kernel_rfl) ?_
    refine wl_val (.bool false) (by kernel_rfl) (run_lss (k := .i64) (a := 16) (b := 16) (by kernel_rfl) (by kernel_rfl) false (by decide)) ?_
    refine wl_nil ?_
    refine then_at (F := ⟨(rarr a :: rarr b :: pt q1 :: pt q4 :: pt q7 :: iN .u32 (brr a b 16) :: iN .i64 16 :: u 7 :: iN .i64 16 :: .bool false :: u 10 :: u 11 :: u 12 :: u 13 :: u 14 :: u 15 :: u 16 :: u 17 :: u 18 :: u 19 :: u 20 :: u 21 :: u 22 :: u 23 :: u 24 :: u 25 :: u 26 :: u 27 :: u 28 :: List.replicate 1 un).toArray, []⟩) (by kernel_rfl) ?_
    refine wp_cond_false (by kernel_rfl) ?_
    refine wp_exit ?_
    repeat first | refine then_exit ?_ | refine block_exit ?_ | refine block_exit_ne (by decide) ?_
    have h19 : HA w [(q7, 32, rl 0), (q4, 32, rl b), (q1, 32, rl (a - b))] w17 := by rw [← mc_end a b ha hb]; exact h18
    refine then_at (F := ⟨(rarr a :: rarr b :: pt q1 :: pt q4 :: pt q7 :: iN .u32 (brr a b 16) :: iN .i64 16 :: u 7 :: iN .i64 16 :: .bool false :: u 10 :: u 11 :: u 12 :: u 13 :: u 14 :: u 15 :: u 16 :: u 17 :: u 18 :: u 19 :: u 20 :: u 21 :: u 22 :: u 23 :: u 24 :: u 25 :: u 26 :: u 27 :: u 28 :: List.replicate 1 un).toArray, []⟩) (by kernel_rfl) ?_
    refine wp_seq ?_
    -- region 8
    refine wl_region ?_
    refine wl_load h19 2 rfl (by kernel_rfl) (by kernel_rfl) Tryd.underlying32 rfl (info_rl _) ?_
    refine wl_fill (c' := rl (a - b)) h19 0 rfl (by kernel_rfl) (by kernel_rfl) (by kernel_rfl) (rl_sz _ _) (info_rl _) (one_rl _) ?_
    intro w20 (h21 : HA w [(q7, 32, rl (a - b)), (q4, 32, rl b), (q1, 32, rl (a - b))] w20)
    refine wl_nil ?_
    refine then_at (F := ⟨(rarr a :: rarr b :: pt q1 :: pt q4 :: pt q7 :: iN .u32 (brr a b 16) :: iN .i64 16 :: u 7 :: iN .i64 16 :: .bool false :: u 10 :: u 11 :: u 12 :: u 13 :: u 14 :: u 15 :: u 16 :: u 17 :: u 18 :: u 19 :: u 20 :: u 21 :: u 22 :: u 23 :: u 24 :: u 25 :: u 26 :: u 27 :: u 28 :: rarr (a - b) :: List.replicate 0 un).toArray, []⟩) (by kernel_rfl) ?_
    refine wp_ret ?_
    repeat first | refine then_ret ?_ | refine block_ret ?_
    exact bodyPost_ret (v := rarr (a - b)) (res_cell (p := 4) (by kernel_rfl) (by kernel_rfl) (h21.get 0 rfl) Tryd.underlying32 rfl (info_rl _)) rfl ⟨rfl, h21.old⟩
end Go.Proofs.YtpaendmdcdeemaaDoor

namespace Go.Proofs.YtpaendmdcdeemaaDoor
open Go.RowKit Num

/-- sixteen words -/
def ul (l : List Nat) : Array Value := cl .u64 l
theorem ul_size (l : List Nat) : (ul l).size = l.length := cl_size _ _
theorem one_ul (l : List Nat) : (ul l).all (·.oneCell') = true := one_cl _ _
theorem info116 : (Tryd.prog.info? 116).map (·.size) = some 16 := by kernel_rfl
theorem enter96' : True := trivial
theorem run_box116 {ρ : Operand → Value} {x : Operand} {c : Array Value} {w : World} {dst : Option Tmp} {ty : TypeId} {pos : String} {aft : Array Edge} {gd : Option (Nat × Bool)} (hx : ρ x = .agg c) :
    (execOp ρ ⟨dst, .box 116 x, ty, pos, aft, gd⟩).run Tryd.prog w = .ok (.value (.pointer (some ⟨w.heap.size, 0, none⟩))) (w.alloc (.cells c 116)) := by
  simp only [execOp, hx]
  go_simp
theorem run_alloc116 {ρ : Operand → Value} {w : World} {dst : Option Tmp} {ty : TypeId} {pos : String} {aft : Array Edge} {gd : Option (Nat × Bool)} :
    (execOp ρ ⟨dst, .alloc 116, ty, pos, aft, gd⟩).run Tryd.prog w = .ok (.value (.pointer (some ⟨w.heap.size, 0, none⟩))) (w.alloc (.cells (ul (List.replicate 16 0)) 116)) := by
  simp only [execOp]
  go_simp
  rfl
def dg (l : List Nat) (k : Nat) : Nat := l.getD k 0
theorem dg_get (l : List Nat) (k : Nat) (h : k < l.length) : dg l k = l[k] := by unfold dg; rw [List.getD_eq_getElem?_getD, List.getElem?_eq_getElem h]; rfl
/-- what is carried into place k -/
def crr (l : List Nat) : Nat → Nat
  | 0 => 0
  | k + 1 => num 65536 (l.take (k + 1)) / 65536 ^ (k + 1)
theorem crr_eq (l : List Nat) (k : Nat) : crr l k = num 65536 (l.take k) / 65536 ^ k := by
  cases k with
  | zero => rw [List.take_zero]; rfl
  | succ k => rfl
/-- k places are passed -/
def pc (l : List Nat) (k : Nat) : List Nat := mix 65536 k (num 65536 (l.take k)) l
theorem pc_zero (l : List Nat) : pc l 0 = l := rfl
theorem pc_len (l : List Nat) (hl : l.length = 16) (k : Nat) (hk : k ≤ 16) : (pc l k).length = 16 := by unfold pc; rw [mix_length _ _ _ _ (by omega), hl]
theorem pc_dg (l : List Nat) (hl : l.length = 16) (k : Nat) (hk : k < 16) : dg (pc l k) k = dg l k := by
  rw [dg_get _ _ (by rw [pc_len l hl k (by omega)]; exact hk), dg_get l k (by omega)]
  exact mix_get _ _ _ _ (by omega)
theorem ul_get (l : List Nat) (k : Nat) (h : k < l.length) : (ul l)[k]? = some (iN .u64 (dg l k)) := by
  unfold ul
  rw [cl_get .u64 l k h, dg_get l k h]
  rfl
theorem ul_put (l : List Nat) (k x : Nat) : (ul l).setIfInBounds k (.int .u64 (x : Int)) = ul (l.set k x) := by
  unfold ul
  simp [cl, List.map_set]
theorem pc_get (l : List Nat) (hl : l.length = 16) (k : Nat) (hk : k < 16) : (ul (pc l k))[k]? = some (iN .u64 (dg l k)) := by
  rw [ul_get _ _ (by rw [pc_len l hl k (by omega)]; exact hk), pc_dg l hl k hk]
theorem set_get (l : List Nat) (k x : Nat) (h : k < l.length) : (ul (l.set k x))[k]? = some (iN .u64 x) := by
  rw [ul_get _ _ (by rw [List.length_set]; exact h), dg_get _ _ (by rw [List.length_set]; exact h), List.getElem_set_self]
theorem pc_step (l : List Nat) (hl : l.length = 16) (k : Nat) (hk : k < 16) : ((pc l k).set k (dg l k + crr l k)).set k ((dg l k + crr l k) &&& 65535) = pc l (k + 1) ∧ (dg l k + crr l k) / 2 ^ 16 = crr l (k + 1) := by
  have h := pass_step 65536 k l (by decide) (by omega)
  rw [List.set_set, and16, crr_eq, dg_get l k (by omega)]
  exact ⟨h.1, h.2.symm⟩
theorem pc_end (l : List Nat) (hl : l.length = 16) : pc l 16 = digs 65536 16 (num 65536 l) := by
  unfold pc mix
  rw [List.take_of_length_le (by omega), List.drop_eq_nil_of_le (by omega), List.append_nil]
theorem crr_le (l : List Nat) (hb : ∀ x ∈ l, x < 4398046511104) (k : Nat) : crr l k ≤ 134217728 := by
  rw [crr_eq]
  exact num_take_le 65536 134217728 k (by decide) l fun x hx => by have := hb x hx; omega
theorem dg_lt (l : List Nat) (hl : l.length = 16) (hb : ∀ x ∈ l, x < 4398046511104) (k : Nat) (hk : k < 16) : dg l k < 4398046511104 := by
  rw [dg_get l k (by omega)]
  exact hb _ (List.getElem_mem _)
/-- what is carried out comes back 38 times -/
def again (l : List Nat) : List Nat := (digs 65536 16 (num 65536 l)).set 0 (dg (digs 65536 16 (num 65536 l)) 0 + 38 * crr l 16)
theorem again_len (l : List Nat) : (again l).length = 16 := by unfold again; rw [List.length_set, digs_length]
theorem crr16 (l : List Nat) (hl : l.length = 16) : crr l 16 = num 65536 l / 65536 ^ 16 := by rw [crr_eq, List.take_of_length_le (by omega)]
theorem again_num (l : List Nat) (hl : l.length = 16) : num 65536 (again l) = num 65536 l % 65536 ^ 16 + 38 * (num 65536 l / 65536 ^ 16) := by
  unfold again
  rw [dg_get _ 0 (by rw [digs_length]; decide), num_more 65536 _ 0 _ (by rw [digs_length]; decide), num_digs, crr16 l hl, Nat.pow_zero, Nat.mul_one]
theorem again_less (l : List Nat) (hl : l.length = 16) (h : crr l 16 ≠ 0) : num 65536 (again l) < num 65536 l := by
  rw [again_num l hl]
  rw [crr16 l hl] at h
  have h1 := Nat.mod_add_div (num 65536 l) (65536 ^ 16)
  have e : (65536 : Nat) ^ 16 = 115792089237316195423570985008687907853269984665640564039457584007913129639936 := by decide
  rw [e] at *
  omega
theorem again_mod (l : List Nat) (hl : l.length = 16) : num 65536 (again l) % P = num 65536 l % P := by
  rw [again_num l hl]
  have h1 := Nat.mod_add_div (num 65536 l) (65536 ^ 16)
  have e : (65536 : Nat) ^ 16 % P = 38 := by decide
  conv => rhs; rw [← h1]
  rw [Nat.add_mod, Nat.mul_mod 38, Nat.add_mod (num 65536 l % 65536 ^ 16) (65536 ^ 16 * _), Nat.mul_mod (65536 ^ 16), e]
  rfl
theorem again_bound (l : List Nat) (hb : ∀ x ∈ l, x < 4398046511104) : ∀ x ∈ again l, x < 4398046511104 := fun x hx => by
  unfold again at hx
  have h1 := digs_lt 65536 (by decide) 16 (num 65536 l)
  rcases List.mem_or_eq_of_mem_set hx with h | h
  · have := h1 x h; omega
  · have h2 := crr_le l hb 16
    have h3 : dg (digs 65536 16 (num 65536 l)) 0 < 65536 := by
      rw [dg_get _ 0 (by rw [digs_length]; decide)]
      exact h1 _ (List.getElem_mem _)
    omega
end Go.Proofs.YtpaendmdcdeemaaDoor

namespace Go.Proofs.YtpaendmdcdeemaaDoor
open Go.RowKit Num

/-- number i0 fills block q, which number i1 has read -/
structure GF (w0 : World) (L : List (Nat × TypeId × Array Value)) (i0 i1 j q : Nat) (t : TypeId) (c : Array Value) (g : Nat → Nat) (d : Nat → Bool) (w : World) : Prop where
  held : HA w0 (if d i0 = true then L.set j (q, t, c) else L) w
  seen : d i0 = true → d i1 = true
section
variable {ops : Array Oper} {Q : Exit → Act → World → Prop} {F : (Nat → Nat) → Act} {i i0 i1 j q : Nat} {dst : Option Tmp} {T ty : TypeId} {pos : String} {aft : Array Edge} {gd : Option (Nat × Bool)}
  {w0 : World} {L : List (Nat × TypeId × Array Value)} {t : TypeId} {c : Array Value}
theorem GF.keep {g : Nat → Nat} {d : Nat → Bool} {w w' : World} (h : GF w0 L i0 i1 j q t c g d w) (hi : i ≠ i0) (hb : Below w.heap.size w w') : GF w0 L i0 i1 j q t c g (up d i true) w' :=
  ⟨by rw [up_ne _ _ (Ne.symm hi)]; exact h.held.keep _ _ hb, fun h0 => by
    rw [up_ne _ _ (Ne.symm hi)] at h0
    by_cases hii : i1 = i
    · rw [hii]; exact up_at _ _ _
    · rw [up_ne _ _ hii]; exact h.seen h0⟩
theorem gf_plain {o : Oper} {v : Value} (hi : i ≠ i0) (hw : ∀ g, Region.wanted o (yielded ops (F g).tmps) = true) (hp : ∀ g, (F g).put o.dst v = F g)
    (hr : ∀ g w, (execOp (F g).eval o).run Tryd.prog w = .ok (.value v) w) : OpGhost Tryd.prog .any ops Q (GF w0 L i0 i1 j q t c) F i o :=
  OpGhost.take (v := fun _ => v) hw hp (fun g _ w h _ => ⟨hr g w, h.keep hi (Below.refl _ w)⟩)
/-- the load that comes ahead of the filling -/
theorem gf_load {x : Operand} {D : TypeDesc} {e : Nat × TypeId × Array Value} (m : Nat) (hm : L[m]? = some e) (hi : i1 ≠ i0)
    (hw : ∀ g, Region.wanted ⟨dst, .load T x, ty, pos, aft, gd⟩ (yielded ops (F g).tmps) = true) (hp : ∀ g, (F g).put dst (.agg e.2.2) = F g) (hx : ∀ g, (F g).eval x = .pointer (some ⟨e.1, 0, none⟩))
    (hu : Tryd.prog.underlying T = some D) (hd : D.isRow = true) (hz : (Tryd.prog.info? T).map (·.size) = some e.2.2.size) :
    OpGhost Tryd.prog .any ops Q (GF w0 L i0 i1 j q t c) F i1 ⟨dst, .load T x, ty, pos, aft, gd⟩ := fun g d w h hdi _ => by
  rw [if_pos (hw g)]
  unfold Oper.wp
  have h0 : d i0 = false := by
    cases h0 : d i0 with
    | false => rfl
    | true => rw [h.seen h0] at hdi; cases hdi
  have hH := h.held
  rw [h0, if_neg (by decide)] at hH
  rw [run_load_blk (hx g) (hH.get m hm) hu hd hz]
  exact ⟨g i1, by rw [up_self]; exact hp g, by rw [up_self]; exact h.keep hi (Below.refl _ w)⟩
/-- a load from another block -/
theorem gf_load2 {x : Operand} {D : TypeDesc} {e : Nat × TypeId × Array Value} (m : Nat) (hjm : j ≠ m) (hm : L[m]? = some e) (hi : i ≠ i0)
    (hw : ∀ g, Region.wanted ⟨dst, .load T x, ty, pos, aft, gd⟩ (yielded ops (F g).tmps) = true) (hp : ∀ g, (F g).put dst (.agg e.2.2) = F g) (hx : ∀ g, (F g).eval x = .pointer (some ⟨e.1, 0, none⟩))
    (hu : Tryd.prog.underlying T = some D) (hd : D.isRow = true) (hz : (Tryd.prog.info? T).map (·.size) = some e.2.2.size) :
    OpGhost Tryd.prog .any ops Q (GF w0 L i0 i1 j q t c) F i ⟨dst, .load T x, ty, pos, aft, gd⟩ :=
  OpGhost.take (v := fun _ => .agg e.2.2) hw hp (fun g d w h _ => by
    have hB : Blk w e.1 e.2.1 e.2.2 := by
      have hH := h.held
      split at hH
      · exact hH.get m (by rw [List.getElem?_set_ne hjm]; exact hm)
      · exact hH.get m hm
    exact ⟨run_load_blk (hx g) hB hu hd hz, h.keep hi (Below.refl _ w)⟩)
theorem gf_call {f : FuncId} {xs : Array Operand} {ats : Array TypeId} {v : Value} (hi : i ≠ i0)
    (hw : ∀ g, Region.wanted ⟨dst, .call { callee := .value (.func f), args := xs, argTypes := ats }, ty, pos, aft, gd⟩ (yielded ops (F g).tmps) = true) (hp : ∀ g, (F g).put dst v = F g)
    (hr : ∀ args w, (callFunc f args).run Tryd.prog w = .ok (.enter f args) w) (args : Array Value) (ha : ∀ g, #[] ++ xs.map (F g).eval ++ #[] = args)
    (hc : ∀ w, Calls Tryd.prog f args w fun e w' => e = .returned v ∧ Below w.heap.size w w') :
    OpGhost Tryd.prog .any ops Q (GF w0 L i0 i1 j q t c) F i ⟨dst, .call { callee := .value (.func f), args := xs, argTypes := ats }, ty, pos, aft, gd⟩ :=
  OpGhost.call (v := fun _ => v) (args := fun _ => args) hw hp (fun g w => by rw [execOp_call_go, ha g]; exact hr _ w) (fun _ _ w hS _ => (hc w).mono fun _ _ h => ⟨h.1, hS.keep hi h.2⟩)
theorem gf_fill {x y : Operand} {c0 : Array Value} (hL : L[j]? = some (q, t, c0)) (hs : c.size = c0.size) (hw : ∀ g, Region.wanted ⟨dst, .store T x y, ty, pos, aft, gd⟩ (yielded ops (F g).tmps) = true) (hp : ∀ g, (F g).put dst undef = F g)
    (hx : ∀ g, (F g).eval x = .pointer (some ⟨q, 0, none⟩)) (hy : ∀ g, (F g).eval y = .agg c) (hz : (Tryd.prog.info? T).map (·.size) = some c.size) (h1 : c.all (·.oneCell') = true) (hi : i1 ≠ i0)
    (he : (aft.any fun e => Region.binds .any e && e.on == i1) = true) :
    OpGhost Tryd.prog .any ops Q (GF w0 L i0 i1 j q t c) F i0 ⟨dst, .store T x y, ty, pos, aft, gd⟩ :=
  OpGhost.skips (W := fun _ w => w.setCells q 0 c.toList) hw hp (fun g d w h hd haft => by
    obtain ⟨m, hm, h3⟩ := Array.any_eq_true.1 he
    rw [Bool.and_eq_true, beq_iff_eq] at h3
    have ha : d i1 = true := by rw [← h3.2]; exact haft _ (Array.getElem_mem hm) h3.1
    have hH := h.held
    rw [hd, if_neg (by decide)] at hH
    exact ⟨run_store_blk (hx g) (hy g) (hH.get j hL) hs hz h1, by rw [up_at, if_pos rfl]; exact hH.fill j hL hs, fun _ => by rw [up_ne _ _ hi]; exact ha⟩)
theorem GF.start {g : Nat → Nat} {d : Nat → Bool} {w : World} (h : HA w0 L w) (hd : d i0 = false) : GF w0 L i0 i1 j q t c g d w := ⟨by rw [hd]; exact h, fun h0 => by rw [hd] at h0; cases h0⟩
end
end Go.Proofs.YtpaendmdcdeemaaDoor

namespace Go.Proofs.YtpaendmdcdeemaaDoor
open Go.RowKit Num

theorem dgD_lt (l : List Nat) (k : Nat) (hk : k < 16) : dg (digs 65536 16 (num 65536 l)) k < 65536 := by
  rw [dg_get _ k (by rw [digs_length]; exact hk)]
  exact digs_lt 65536 (by decide) 16 _ _ (List.getElem_mem _)
theorem copy_put (l : List Nat) (k : Nat) (hk : k < 16) : (rl (num 65536 l % 65536 ^ k)).setIfInBounds k (.int .u32 ((dg (digs 65536 16 (num 65536 l)) k : Nat) : Int)) = rl (num 65536 l % 65536 ^ (k + 1)) := by
  have h := dgD_lt l k hk
  rw [rl_put _ k _ (Nat.mod_lt _ (Nat.pow_pos (by decide))) hk h, dg_get _ k (by rw [digs_length]; exact hk), digs_get]
  congr 1
  rw [Nat.pow_succ, Nat.mod_mul, Nat.mul_comm (65536 ^ k)]

set_option linter.unusedVariables false in
set_option maxRecDepth 100000 in
set_option maxHeartbeats 2000000 in
theorem reduced_any (l0 : List Nat) (hl0 : l0.length = 16) (hb0 : ∀ x ∈ l0, x < 4398046511104) (w : World) : Calls Tryd.prog 96 #[.agg (ul l0)] w fun e w' => e = .returned (rarr (num 65536 l0 % P)) ∧ Below w.heap.size w w' := by
  have H0 := HA.start w
  go_enter Tryd.func96, Tryd.ntmps96
  refine wp_seq ?_
  -- region 0
  refine wl_region ?_
  refine wl_make H0 116 (by kernel_rfl) (run_box116 (c := ul l0) (by kernel_rfl)) ?_
  intro q1 w2 h3
  refine wl_make h3 32 (by kernel_rfl) run_alloc32 ?_
  intro q4 w5 h6
  refine wl_nil ?_
  refine then_at (F := ⟨(.agg (ul l0) :: pt q1 :: pt q4 :: List.replicate 51 un).toArray, []⟩) (by kernel_rfl) ?_
  refine wp_seq ?_
  refine wp_block ?_
  refine wp_while (fun m A w' => ∃ (l : List Nat) (u7 : Nat → Value), m = num 65536 l ∧ A = ⟨(.agg (ul l0) :: pt q1 :: pt q4 :: u7 3 :: u7 4 :: un :: un :: u7 7 :: u7 8 :: u7 9 :: u7 10 :: u7 11 :: u7 12 :: u7 13 :: u7 14 :: u7 15 :: u7 16 :: u7 17 :: u7 18 :: u7 19 :: u7 20 :: u7 21 :: u7 22 :: u7 23 :: u7 24 :: u7 25 :: u7 26 :: u7 27 :: u7 28 :: u7 29 :: u7 30 :: u7 31 :: u7 32 :: u7 33 :: u7 34 :: u7 35 :: List.replicate 18 un).toArray, []⟩ ∧ HA w [(q4, 32, rl 0), (q1, 116, ul l)] w' ∧ l.length = 16 ∧ (∀ x ∈ l, x < 4398046511104) ∧ num 65536 l % P = num 65536 l0 % P) (num 65536 l0) ?_ ?_
  · exact ⟨l0, fun i => (([(3, undef), (4, undef), (7, undef), (8, undef), (9, undef), (10, undef), (11, undef), (12, undef), (13, undef), (14, undef), (15, undef), (16, undef), (17, undef), (18, undef), (19, undef), (20, undef), (21, undef), (22, undef), (23, undef), (24, undef), (25, undef), (26, undef), (27, undef), (28, undef), (29, undef), (30, undef), (31, undef), (32, undef), (33, undef), (34, undef), (35, undef)] : List (Nat × Value)).find? (·.1 == i)).elim undef (·.2), rfl, by kernel_rfl, h6, hl0, hb0, rfl⟩
  rintro _ _ w8 ⟨l, u7, rfl, rfl, h9, hl, hb, hN⟩
  refine wp_block ?_
  refine wp_seq ?_
  -- region 1
  refine wl_region ?_
  refine wl_val (iN .u64 0) (by kernel_rfl) (by kernel_rfl) ?_
  refine wl_nil ?_
  refine then_at (F := ⟨(.agg (ul l0) :: pt q1 :: pt q4 :: iN .u64 0 :: u7 4 :: un :: un :: u7 7 :: u7 8 :: u7 9 :: u7 10 :: u7 11 :: u7 12 :: u7 13 :: u7 14 :: u7 15 :: u7 16 :: u7 17 :: u7 18 :: u7 19 :: u7 20 :: u7 21 :: u7 22 :: u7 23 :: u7 24 :: u7 25 :: u7 26 :: u7 27 :: u7 28 :: u7 29 :: u7 30 :: u7 31 :: u7 32 :: u7 33 :: u7 34 :: u7 35 :: List.replicate 18 un).toArray, []⟩) (by kernel_rfl) ?_
  refine wp_seq ?_
  refine wp_seq ?_
  -- region 2
  refine wl_region ?_
  refine wl_val (iN .i64 0) (by kernel_rfl) (by kernel_rfl) ?_
  refine wl_nil ?_
  refine then_at (F := ⟨(.agg (ul l0) :: pt q1 :: pt q4 :: iN .u64 0 :: iN .i64 0 :: un :: un :: u7 7 :: u7 8 :: u7 9 :: u7 10 :: u7 11 :: u7 12 :: u7 13 :: u7 14 :: u7 15 :: u7 16 :: u7 17 :: u7 18 :: u7 19 :: u7 20 :: u7 21 :: u7 22 :: u7 23 :: u7 24 :: u7 25 :: u7 26 :: u7 27 :: u7 28 :: u7 29 :: u7 30 :: u7 31 :: u7 32 :: u7 33 :: u7 34 :: u7 35 :: List.replicate 18 un).toArray, []⟩) (by kernel_rfl) ?_
  refine wp_block ?_
  refine wp_count (fun k A w' => ∃ u10 : Nat → Value, A = ⟨(.agg (ul l0) :: pt q1 :: pt q4 :: iN .u64 (crr l k) :: iN .i64 k :: un :: un :: u10 7 :: u10 8 :: u10 9 :: u10 10 :: u10 11 :: u10 12 :: u10 13 :: u10 14 :: u10 15 :: u10 16 :: u10 17 :: u10 18 :: u10 19 :: u10 20 :: u10 21 :: u10 22 :: u10 23 :: u10 24 :: u10 25 :: u10 26 :: u10 27 :: u7 28 :: u7 29 :: u7 30 :: u7 31 :: u7 32 :: u7 33 :: u7 34 :: u7 35 :: List.replicate 18 un).toArray, []⟩ ∧ HA w [(q4, 32, rl 0), (q1, 116, ul (pc l k))] w') 16 ?_ ?_ ?_
  · exact ⟨fun i => (([(7, u7 7), (8, u7 8), (9, u7 9), (10, u7 10), (11, u7 11), (12, u7 12), (13, u7 13), (14, u7 14), (15, u7 15), (16, u7 16), (17, u7 17), (18, u7 18), (19, u7 19), (20, u7 20), (21, u7 21), (22, u7 22), (23, u7 23), (24, u7 24), (25, u7 25), (26, u7 26), (27, u7 27)] : List (Nat × Value)).find? (·.1 == i)).elim undef (·.2), by kernel_rfl, h9⟩
  · rintro k hk _ w11 ⟨u10, rfl, h12⟩
    have hps := pc_step l hl k hk
    have hcl := crr_le l hb k
    have hdl := dg_lt l hl hb k hk
    refine wp_seq ?_
    refine wp_seq ?_
    -- region 3
    refine wl_region ?_
    refine wl_val (iN .i64 k) (by kernel_rfl) (by kernel_rfl) ?_
    refine wl_val (.bool true) (by kernel_rfl) (run_lss (k := .i64) (a := k) (b := 16) (by kernel_rfl) (by kernel_rfl) true (decide_eq_true hk)) ?_
    refine wl_nil ?_
    refine then_at (F := ⟨(.agg (ul l0) :: pt q1 :: pt q4 :: iN .u64 (crr l k) :: iN .i64 k :: un :: un :: iN .i64 k :: .bool true :: u10 9 :: u10 10 :: u10 11 :: u10 12 :: u10 13 :: u10 14 :: u10 15 :: u10 16 :: u10 17 :: u10 18 :: u10 19 :: u10 20 :: u10 21 :: u10 22 :: u10 23 :: u10 24 :: u10 25 :: u10 26 :: u10 27 :: u7 28 :: u7 29 :: u7 30 :: u7 31 :: u7 32 :: u7 33 :: u7 34 :: u7 35 :: List.replicate 18 un).toArray, []⟩) (by kernel_rfl) ?_
    refine wp_cond_true (by kernel_rfl) ?_
    refine wp_skip ?_
    refine then_at (F := ⟨(.agg (ul l0) :: pt q1 :: pt q4 :: iN .u64 (crr l k) :: iN .i64 k :: un :: un :: iN .i64 k :: .bool true :: u10 9 :: u10 10 :: u10 11 :: u10 12 :: u10 13 :: u10 14 :: u10 15 :: u10 16 :: u10 17 :: u10 18 :: u10 19 :: u10 20 :: u10 21 :: u10 22 :: u10 23 :: u10 24 :: u10 25 :: u10 26 :: u10 27 :: u7 28 :: u7 29 :: u7 30 :: u7 31 :: u7 32 :: u7 33 :: u7 34 :: u7 35 :: List.replicate 18 un).toArray, []⟩) (by kernel_rfl) ?_
    refine wp_seq ?_
    refine wp_block ?_
    refine wp_seq ?_
    -- region 5
    refine wl_region ?_
    refine wl_val (iN .i64 k) (by kernel_rfl) (by kernel_rfl) ?_
    refine wl_val (iN .i64 k) (by kernel_rfl) (by kernel_rfl) ?_
    refine wl_val (.pointer (some ⟨q1, k, none⟩)) (by kernel_rfl) (run_addr_arr (q := q1) (a := k) Tryd.underlying116 (fun w => Tryd.sizeOf22 w) (by kernel_rfl) (by kernel_rfl) (by omega)) ?_
    refine wl_val (iN .u64 (dg l k)) (by kernel_rfl) (run_load1 (fun w => Tryd.isAgg22 w) (by kernel_rfl) (((h12.get 1 rfl).cell k).trans (pc_get l hl k hk))) ?_
    refine wl_val (iN .u64 (crr l k)) (by kernel_rfl) (by kernel_rfl) ?_
    refine wl_val (iN .u64 ((dg l k) + (crr l k))) (by kernel_rfl) (run_add (k := .u64) (a := dg l k) (b := crr l k) (by kernel_rfl) (by kernel_rfl) (by simp only [top]; omega)) ?_
    refine wl_val (.pointer (some ⟨q1, k, none⟩)) (by kernel_rfl) (run_addr_arr (q := q1) (a := k) Tryd.underlying116 (fun w => Tryd.sizeOf22 w) (by kernel_rfl) (by kernel_rfl) (by omega)) ?_
    refine wl_put (k := .u64) (z := (((dg l k) + (crr l k) : Nat) : Int)) h12 1 rfl k (by rw [ul_size, pc_len l hl k (by omega)]; exact hk) (by kernel_rfl) (fun w => Tryd.sizeOf22 w) (by kernel_rfl) (by kernel_rfl) ?_
    intro w13 h14
    have h15 : HA w [(q4, 32, rl 0), (q1, 116, ul ((pc l k).set k (dg l k + crr l k)))] w13 := (by rw [← ul_put]; exact h14)
    clear h14
    refine wl_nil ?_
    refine then_at (F := ⟨(.agg (ul l0) :: pt q1 :: pt q4 :: iN .u64 (crr l k) :: iN .i64 k :: un :: un :: iN .i64 k :: .bool true :: u10 9 :: u10 10 :: iN .i64 k :: iN .i64 k :: .pointer (some ⟨q1, k, none⟩) :: iN .u64 (dg l k) :: iN .u64 (crr l k) :: iN .u64 ((dg l k) + (crr l k)) :: .pointer (some ⟨q1, k, none⟩) :: u10 18 :: u10 19 :: u10 20 :: u10 21 :: u10 22 :: u10 23 :: u10 24 :: u10 25 :: u10 26 :: u10 27 :: u7 28 :: u7 29 :: u7 30 :: u7 31 :: u7 32 :: u7 33 :: u7 34 :: u7 35 :: List.replicate 18 un).toArray, []⟩) (by kernel_rfl) ?_
    refine wp_seq ?_
    -- region 6
    refine wl_region ?_
    refine wl_val (iN .i64 k) (by kernel_rfl) (by kernel_rfl) ?_
    refine wl_val (.pointer (some ⟨q1, k, none⟩)) (by kernel_rfl) (run_addr_arr (q := q1) (a := k) Tryd.underlying116 (fun w => Tryd.sizeOf22 w) (by kernel_rfl) (by kernel_rfl) (by omega)) ?_
    refine wl_val (iN .u64 (dg l k + crr l k)) (by kernel_rfl) (run_load1 (fun w => Tryd.isAgg22 w) (by kernel_rfl) (((h15.get 1 rfl).cell k).trans (set_get (pc l k) k _ (by rw [pc_len l hl k (by omega)]; exact hk)))) ?_
    refine wl_val (iN .u64 ((dg l k + crr l k) / 2 ^ 16)) (by kernel_rfl) (run_shr (k2 := .u64) (k := .u64) (a := dg l k + crr l k) (b := 16) (by kernel_rfl) (by kernel_rfl) (by decide)) ?_
    refine wl_val (iN .u64 ((dg l k + crr l k) / 2 ^ 16)) (by kernel_rfl) (by kernel_rfl) ?_
    refine wl_nil ?_
    refine then_at (F := ⟨(.agg (ul l0) :: pt q1 :: pt q4 :: iN .u64 ((dg l k + crr l k) / 2 ^ 16) :: iN .i64 k :: un :: un :: iN .i64 k :: .bool true :: u10 9 :: u10 10 :: iN .i64 k :: iN .i64 k :: .pointer (some ⟨q1, k, none⟩) :: iN .u64 (dg l k) :: iN .u64 (crr l k) :: iN .u64 ((dg l k) + (crr l k)) :: .pointer (some ⟨q1, k, none⟩) :: iN .i64 k :: .pointer (some ⟨q1, k, none⟩) :: iN .u64 (dg l k + crr l k) :: iN .u64 ((dg l k + crr l k) / 2 ^ 16) :: u10 22 :: u10 23 :: u10 24 :: u10 25 :: u10 26 :: u10 27 :: u7 28 :: u7 29 :: u7 30 :: u7 31 :: u7 32 :: u7 33 :: u7 34 :: u7 35 :: List.replicate 18 un).toArray, []⟩) (by kernel_rfl) ?_
    -- region 7
    refine wl_region ?_
    refine wl_val (iN .i64 k) (by kernel_rfl) (by kernel_rfl) ?_
    refine wl_val (iN .i64 k) (by kernel_rfl) (by kernel_rfl) ?_
    refine wl_val (.pointer (some ⟨q1, k, none⟩)) (by kernel_rfl) (run_addr_arr (q := q1) (a := k) Tryd.underlying116 (fun w => Tryd.sizeOf22 w) (by kernel_rfl) (by kernel_rfl) (by omega)) ?_
    refine wl_val (iN .u64 (dg l k + crr l k)) (by kernel_rfl) (run_load1 (fun w => Tryd.isAgg22 w) (by kernel_rfl) (((h15.get 1 rfl).cell k).trans (set_get (pc l k) k _ (by rw [pc_len l hl k (by omega)]; exact hk)))) ?_
    refine wl_val (iN .u64 ((dg l k + crr l k) &&& 65535)) (by kernel_rfl) (run_and64 (a := dg l k + crr l k) (b := 65535) (by kernel_rfl) (by kernel_rfl) (by omega) (by decide)) ?_
    refine wl_val (.pointer (some ⟨q1, k, none⟩)) (by kernel_rfl) (run_addr_arr (q := q1) (a := k) Tryd.underlying116 (fun w => Tryd.sizeOf22 w) (by kernel_rfl) (by kernel_rfl) (by omega)) ?_
    refine wl_put (k := .u64) (z := (((dg l k + crr l k) &&& 65535 : Nat) : Int)) h15 1 rfl k (by rw [ul_size, List.length_set, pc_len l hl k (by omega)]; exact hk) (by kernel_rfl) (fun w => Tryd.sizeOf22 w) (by kernel_rfl) (by kernel_rfl) ?_
    intro w16 h17
    have h18 : HA w [(q4, 32, rl 0), (q1, 116, ul (pc l (k + 1)))] w16 := (by rw [← hps.1, ← ul_put]; exact h17)
    clear h17
    refine wl_nil ?_
    refine block_normal ?_
    refine then_at (F := ⟨(.agg (ul l0) :: pt q1 :: pt q4 :: iN .u64 ((dg l k + crr l k) / 2 ^ 16) :: iN .i64 k :: un :: un :: iN .i64 k :: .bool true :: u10 9 :: u10 10 :: iN .i64 k :: iN .i64 k :: .pointer (some ⟨q1, k, none⟩) :: iN .u64 (dg l k) :: iN .u64 (crr l k) :: iN .u64 ((dg l k) + (crr l k)) :: .pointer (some ⟨q1, k, none⟩) :: iN .i64 k :: .pointer (some ⟨q1, k, none⟩) :: iN .u64 (dg l k + crr l k) :: iN .u64 ((dg l k + crr l k) / 2 ^ 16) :: iN .i64 k :: iN .i64 k :: .pointer (some ⟨q1, k, none⟩) :: iN .u64 (dg l k + crr l k) :: iN .u64 ((dg l k + crr l k) &&& 65535) :: .pointer (some ⟨q1, k, none⟩) :: u7 28 :: u7 29 :: u7 30 :: u7 31 :: u7 32 :: u7 33 :: u7 34 :: u7 35 :: List.replicate 18 un).toArray, []⟩) (by kernel_rfl) ?_
    -- region 4
    refine wl_region ?_
    refine wl_val (iN .i64 k) (by kernel_rfl) (by kernel_rfl) ?_
    refine wl_val (iN .i64 (k + 1)) (by kernel_rfl) (run_add (k := .i64) (a := k) (b := 1) (by kernel_rfl) (by kernel_rfl) (by simp only [top]; omega)) ?_
    refine wl_val (iN .i64 (k + 1)) (by kernel_rfl) (by kernel_rfl) ?_
    refine wl_nil ?_
    rw [← hps.2]
    exact then_I ⟨fun i => (([(7, iN .i64 k), (8, .bool true), (9, iN .i64 k), (10, iN .i64 (k + 1)), (11, iN .i64 k), (12, iN .i64 k), (13, .pointer (some ⟨q1, k, none⟩)), (14, iN .u64 (dg l k)), (15, iN .u64 (crr l k)), (16, iN .u64 ((dg l k) + (crr l k))), (17, .pointer (some ⟨q1, k, none⟩)), (18, iN .i64 k), (19, .pointer (some ⟨q1, k, none⟩)), (20, iN .u64 (dg l k + crr l k)), (21, iN .u64 ((dg l k + crr l k) / 2 ^ 16)), (22, iN .i64 k), (23, iN .i64 k), (24, .pointer (some ⟨q1, k, none⟩)), (25, iN .u64 (dg l k + crr l k)), (26, iN .u64 ((dg l k + crr l k) &&& 65535)), (27, .pointer (some ⟨q1, k, none⟩))] : List (Nat × Value)).find? (·.1 == i)).elim undef (·.2), by kernel_rfl, h18⟩
  · rintro _ w19 ⟨u10, rfl, h20⟩
    refine wp_seq ?_
    refine wp_seq ?_
    -- region 3
    refine wl_region ?_
    refine wl_val (iN .i64 16) (by kernel_rfl) (by kernel_rfl) ?_
    refine wl_val (.bool false) (by kernel_rfl) (run_lss (k := .i64) (a := 16) (b := 16) (by kernel_rfl) (by kernel_rfl) false (by decide)) ?_
    refine wl_nil ?_
    refine then_at (F := ⟨(.agg (ul l0) :: pt q1 :: pt q4 :: iN .u64 (crr l 16) :: iN .i64 16 :: un :: un :: iN .i64 16 :: .bool false :: u10 9 :: u10 10 :: u10 11 :: u10 12 :: u10 13 :: u10 14 :: u10 15 :: u10 16 :: u10 17 :: u10 18 :: u10 19 :: u10 20 :: u10 21 :: u10 22 :: u10 23 :: u10 24 :: u10 25 :: u10 26 :: u10 27 :: u7 28 :: u7 29 :: u7 30 :: u7 31 :: u7 32 :: u7 33 :: u7 34 :: u7 35 :: List.replicate 18 un).toArray, []⟩) (by kernel_rfl) ?_
    refine wp_cond_false (by kernel_rfl) ?_
    refine wp_exit ?_
    repeat first | refine then_exit ?_ | refine block_exit ?_ | refine block_exit_ne (by decide) ?_
    have h21 : HA w [(q4, 32, rl 0), (q1, 116, ul (digs 65536 16 (num 65536 l)))] w19 := by rw [← pc_end l hl]; exact h20
    have hc16 := crr_le l hb 16
    have hd0 := dgD_lt l 0 (by decide)
    refine then_at (F := ⟨(.agg (ul l0) :: pt q1 :: pt q4 :: iN .u64 (crr l 16) :: iN .i64 16 :: un :: un :: iN .i64 16 :: .bool false :: u10 9 :: u10 10 :: u10 11 :: u10 12 :: u10 13 :: u10 14 :: u10 15 :: u10 16 :: u10 17 :: u10 18 :: u10 19 :: u10 20 :: u10 21 :: u10 22 :: u10 23 :: u10 24 :: u10 25 :: u10 26 :: u10 27 :: u7 28 :: u7 29 :: u7 30 :: u7 31 :: u7 32 :: u7 33 :: u7 34 :: u7 35 :: List.replicate 18 un).toArray, []⟩) (by kernel_rfl) ?_
    refine wp_seq ?_
    refine wp_seq ?_
    by_cases hc : crr l 16 = 0
    · -- region 8
      refine wl_region ?_
      refine wl_val (iN .u64 (crr l 16)) (by kernel_rfl) (by kernel_rfl) ?_
      refine wl_val (.bool true) (by kernel_rfl) (run_eqi (k := .u64) (a := crr l 16) (b := 0) (by kernel_rfl) (by kernel_rfl) true (decide_eq_true hc)) ?_
      refine wl_nil ?_
      refine then_at (F := ⟨(.agg (ul l0) :: pt q1 :: pt q4 :: iN .u64 (crr l 16) :: iN .i64 16 :: un :: un :: iN .i64 16 :: .bool false :: u10 9 :: u10 10 :: u10 11 :: u10 12 :: u10 13 :: u10 14 :: u10 15 :: u10 16 :: u10 17 :: u10 18 :: u10 19 :: u10 20 :: u10 21 :: u10 22 :: u10 23 :: u10 24 :: u10 25 :: u10 26 :: u10 27 :: iN .u64 (crr l 16) :: .bool true :: u7 30 :: u7 31 :: u7 32 :: u7 33 :: u7 34 :: u7 35 :: List.replicate 18 un).toArray, []⟩) (by kernel_rfl) ?_
      refine wp_cond_true (by kernel_rfl) ?_
      refine wp_exit ?_
      repeat first | refine then_exit ?_ | refine block_exit ?_ | refine block_exit_ne (by decide) ?_
      refine then_at (F := ⟨(.agg (ul l0) :: pt q1 :: pt q4 :: iN .u64 (crr l 16) :: iN .i64 16 :: un :: un :: iN .i64 16 :: .bool false :: u10 9 :: u10 10 :: u10 11 :: u10 12 :: u10 13 :: u10 14 :: u10 15 :: u10 16 :: u10 17 :: u10 18 :: u10 19 :: u10 20 :: u10 21 :: u10 22 :: u10 23 :: u10 24 :: u10 25 :: u10 26 :: u10 27 :: iN .u64 (crr l 16) :: .bool true :: u7 30 :: u7 31 :: u7 32 :: u7 33 :: u7 34 :: u7 35 :: List.replicate 18 un).toArray, []⟩) (by kernel_rfl) ?_
      refine wp_seq ?_
      -- region 10
      refine wl_region ?_
      refine wl_make h21 32 (by kernel_rfl) run_alloc32 ?_
      intro q22 w23 h24
      refine wl_nil ?_
      refine then_at (F := ⟨(.agg (ul l0) :: pt q1 :: pt q4 :: iN .u64 (crr l 16) :: iN .i64 16 :: pt q22 :: un :: iN .i64 16 :: .bool false :: u10 9 :: u10 10 :: u10 11 :: u10 12 :: u10 13 :: u10 14 :: u10 15 :: u10 16 :: u10 17 :: u10 18 :: u10 19 :: u10 20 :: u10 21 :: u10 22 :: u10 23 :: u10 24 :: u10 25 :: u10 26 :: u10 27 :: iN .u64 (crr l 16) :: .bool true :: u7 30 :: u7 31 :: u7 32 :: u7 33 :: u7 34 :: u7 35 :: List.replicate 18 un).toArray, []⟩) (by kernel_rfl) ?_
      refine wp_seq ?_
      refine wp_seq ?_
      -- region 11
      refine wl_region ?_
      refine wl_val (iN .i64 0) (by kernel_rfl) (by kernel_rfl) ?_
      refine wl_nil ?_
      refine then_at (F := ⟨(.agg (ul l0) :: pt q1 :: pt q4 :: iN .u64 (crr l 16) :: iN .i64 16 :: pt q22 :: iN .i64 0 :: iN .i64 16 :: .bool false :: u10 9 :: u10 10 :: u10 11 :: u10 12 :: u10 13 :: u10 14 :: u10 15 :: u10 16 :: u10 17 :: u10 18 :: u10 19 :: u10 20 :: u10 21 :: u10 22 :: u10 23 :: u10 24 :: u10 25 :: u10 26 :: u10 27 :: iN .u64 (crr l 16) :: .bool true :: u7 30 :: u7 31 :: u7 32 :: u7 33 :: u7 34 :: u7 35 :: List.replicate 18 un).toArray, []⟩) (by kernel_rfl) ?_
      refine wp_block ?_
      refine wp_count (fun k A w' => ∃ u25 : Nat → Value, A = ⟨(.agg (ul l0) :: pt q1 :: pt q4 :: iN .u64 (crr l 16) :: iN .i64 16 :: pt q22 :: iN .i64 k :: iN .i64 16 :: .bool false :: u10 9 :: u10 10 :: u10 11 :: u10 12 :: u10 13 :: u10 14 :: u10 15 :: u10 16 :: u10 17 :: u10 18 :: u10 19 :: u10 20 :: u10 21 :: u10 22 :: u10 23 :: u10 24 :: u10 25 :: u10 26 :: u10 27 :: iN .u64 (crr l 16) :: .bool true :: u7 30 :: u7 31 :: u7 32 :: u7 33 :: u7 34 :: u7 35 :: u25 36 :: u25 37 :: u25 38 :: u25 39 :: u25 40 :: u25 41 :: u25 42 :: u25 43 :: u25 44 :: u25 45 :: List.replicate 8 un).toArray, []⟩ ∧ HA w [(q22, 32, rl (num 65536 l % 65536 ^ k)), (q4, 32, rl 0), (q1, 116, ul (digs 65536 16 (num 65536 l)))] w') 16 ?_ ?_ ?_
      · exact ⟨fun i => (([(36, undef), (37, undef), (38, undef), (39, undef), (40, undef), (41, undef), (42, undef), (43, undef), (44, undef), (45, undef)] : List (Nat × Value)).find? (·.1 == i)).elim undef (·.2), by kernel_rfl, (by rw [Nat.pow_zero, Nat.mod_one]; exact h24)⟩
      · rintro k hk _ w26 ⟨u25, rfl, h27⟩
        refine wp_seq ?_
        refine wp_seq ?_
        -- region 12
        refine wl_region ?_
        refine wl_val (iN .i64 k) (by kernel_rfl) (by kernel_rfl) ?_
        refine wl_val (.bool true) (by kernel_rfl) (run_lss (k := .i64) (a := k) (b := 16) (by kernel_rfl) (by kernel_rfl) true (decide_eq_true hk)) ?_
        refine wl_nil ?_
        refine then_at (F := ⟨(.agg (ul l0) :: pt q1 :: pt q4 :: iN .u64 (crr l 16) :: iN .i64 16 :: pt q22 :: iN .i64 k :: iN .i64 16 :: .bool false :: u10 9 :: u10 10 :: u10 11 :: u10 12 :: u10 13 :: u10 14 :: u10 15 :: u10 16 :: u10 17 :: u10 18 :: u10 19 :: u10 20 :: u10 21 :: u10 22 :: u10 23 :: u10 24 :: u10 25 :: u10 26 :: u10 27 :: iN .u64 (crr l 16) :: .bool true :: u7 30 :: u7 31 :: u7 32 :: u7 33 :: u7 34 :: u7 35 :: iN .i64 k :: .bool true :: u25 38 :: u25 39 :: u25 40 :: u25 41 :: u25 42 :: u25 43 :: u25 44 :: u25 45 :: List.replicate 8 un).toArray, []⟩) (by kernel_rfl) ?_
        refine wp_cond_true (by kernel_rfl) ?_
        refine wp_skip ?_
        refine then_at (F := ⟨(.agg (ul l0) :: pt q1 :: pt q4 :: iN .u64 (crr l 16) :: iN .i64 16 :: pt q22 :: iN .i64 k :: iN .i64 16 :: .bool false :: u10 9 :: u10 10 :: u10 11 :: u10 12 :: u10 13 :: u10 14 :: u10 15 :: u10 16 :: u10 17 :: u10 18 :: u10 19 :: u10 20 :: u10 21 :: u10 22 :: u10 23 :: u10 24 :: u10 25 :: u10 26 :: u10 27 :: iN .u64 (crr l 16) :: .bool true :: u7 30 :: u7 31 :: u7 32 :: u7 33 :: u7 34 :: u7 35 :: iN .i64 k :: .bool true :: u25 38 :: u25 39 :: u25 40 :: u25 41 :: u25 42 :: u25 43 :: u25 44 :: u25 45 :: List.replicate 8 un).toArray, []⟩) (by kernel_rfl) ?_
        refine wp_seq ?_
        refine wp_block ?_
        -- region 14
        refine wl_region ?_
        refine wl_val (iN .i64 k) (by kernel_rfl) (by kernel_rfl) ?_
        refine wl_val (iN .i64 k) (by kernel_rfl) (by kernel_rfl) ?_
        refine wl_val (.pointer (some ⟨q1, k, none⟩)) (by kernel_rfl) (run_addr_arr (q := q1) (a := k) Tryd.underlying116 (fun w => Tryd.sizeOf22 w) (by kernel_rfl) (by kernel_rfl) (by omega)) ?_
        refine wl_val (iN .u64 (dg (digs 65536 16 (num 65536 l)) k)) (by kernel_rfl) (run_load1 (fun w => Tryd.isAgg22 w) (by kernel_rfl) (((h27.get 2 rfl).cell k).trans (ul_get _ k (by rw [digs_length]; exact hk)))) ?_
        refine wl_val (iN .u32 (dg (digs 65536 16 (num 65536 l)) k)) (by kernel_rfl) (run_conv (k := .u64) (a := dg (digs 65536 16 (num 65536 l)) k) .u32 Tryd.underlying22 Tryd.underlying30 (by kernel_rfl) (by simp only [top]; exact Nat.lt_trans (dgD_lt l k hk) (by decide))) ?_
        refine wl_val (.pointer (some ⟨q22, k, none⟩)) (by kernel_rfl) (run_addr_arr (q := q22) (a := k) Tryd.underlying32 (fun w => Tryd.sizeOf30 w) (by kernel_rfl) (by kernel_rfl) (by omega)) ?_
        refine wl_put (k := .u32) (z := ((dg (digs 65536 16 (num 65536 l)) k : Nat) : Int)) h27 0 rfl k (by rw [rl_size]; exact hk) (by kernel_rfl) (fun w => Tryd.sizeOf30 w) (by kernel_rfl) (by kernel_rfl) ?_
        intro w28 h29
        have h30 : HA w [(q22, 32, rl (num 65536 l % 65536 ^ (k + 1))), (q4, 32, rl 0), (q1, 116, ul (digs 65536 16 (num 65536 l)))] w28 := (by rw [← copy_put l k hk]; exact h29)
        clear h29
        refine wl_nil ?_
        refine block_normal ?_
        refine then_at (F := ⟨(.agg (ul l0) :: pt q1 :: pt q4 :: iN .u64 (crr l 16) :: iN .i64 16 :: pt q22 :: iN .i64 k :: iN .i64 16 :: .bool false :: u10 9 :: u10 10 :: u10 11 :: u10 12 :: u10 13 :: u10 14 :: u10 15 :: u10 16 :: u10 17 :: u10 18 :: u10 19 :: u10 20 :: u10 21 :: u10 22 :: u10 23 :: u10 24 :: u10 25 :: u10 26 :: u10 27 :: iN .u64 (crr l 16) :: .bool true :: u7 30 :: u7 31 :: u7 32 :: u7 33 :: u7 34 :: u7 35 :: iN .i64 k :: .bool true :: u25 38 :: u25 39 :: iN .i64 k :: iN .i64 k :: .pointer (some ⟨q1, k, none⟩) :: iN .u64 (dg (digs 65536 16 (num 65536 l)) k) :: iN .u32 (dg (digs 65536 16 (num 65536 l)) k) :: .pointer (some ⟨q22, k, none⟩) :: List.replicate 8 un).toArray, []⟩) (by kernel_rfl) ?_
        -- region 13
        refine wl_region ?_
        refine wl_val (iN .i64 k) (by kernel_rfl) (by kernel_rfl) ?_
        refine wl_val (iN .i64 (k + 1)) (by kernel_rfl) (run_add (k := .i64) (a := k) (b := 1) (by kernel_rfl) (by kernel_rfl) (by simp only [top]; omega)) ?_
        refine wl_val (iN .i64 (k + 1)) (by kernel_rfl) (by kernel_rfl) ?_
        refine wl_nil ?_
        exact then_I ⟨fun i => (([(36, iN .i64 k), (37, .bool true), (38, iN .i64 k), (39, iN .i64 (k + 1)), (40, iN .i64 k), (41, iN .i64 k), (42, .pointer (some ⟨q1, k, none⟩)), (43, iN .u64 (dg (digs 65536 16 (num 65536 l)) k)), (44, iN .u32 (dg (digs 65536 16 (num 65536 l)) k)), (45, .pointer (some ⟨q22, k, none⟩))] : List (Nat × Value)).find? (·.1 == i)).elim undef (·.2), by kernel_rfl, h30⟩
      · rintro _ w31 ⟨u25, rfl, h32⟩
        refine wp_seq ?_
        refine wp_seq ?_
        -- region 12
        refine wl_region ?_
        refine wl_val (iN .i64 16) (by kernel_rfl) (by kernel_rfl) ?_
        refine wl_val (.bool false) (by kernel_rfl) (run_lss (k := .i64) (a := 16) (b := 16) (by kernel_rfl) (by kernel_rfl) false (by decide)) ?_
        refine wl_nil ?_
        refine then_at (F := ⟨(.agg (ul l0) :: pt q1 :: pt q4 :: iN .u64 (crr l 16) :: iN .i64 16 :: pt q22 :: iN .i64 16 :: iN .i64 16 :: .bool false :: u10 9 :: u10 10 :: u10 11 :: u10 12 :: u10 13 :: u10 14 :: u10 15 :: u10 16 :: u10 17 :: u10 18 :: u10 19 :: u10 20 :: u10 21 :: u10 22 :: u10 23 :: u10 24 :: u10 25 :: u10 26 :: u10 27 :: iN .u64 (crr l 16) :: .bool true :: u7 30 :: u7 31 :: u7 32 :: u7 33 :: u7 34 :: u7 35 :: iN .i64 16 :: .bool false :: u25 38 :: u25 39 :: u25 40 :: u25 41 :: u25 42 :: u25 43 :: u25 44 :: u25 45 :: List.replicate 8 un).toArray, []⟩) (by kernel_rfl) ?_
        refine wp_cond_false (by kernel_rfl) ?_
        refine wp_exit ?_
        repeat first | refine then_exit ?_ | refine block_exit ?_ | refine block_exit_ne (by decide) ?_
        have hlow : num 65536 l < 65536 ^ 16 := by rw [crr16 l hl] at hc; exact (Nat.div_eq_zero_iff_lt (by decide)).1 hc
        have h33 : HA w [(q22, 32, rl (num 65536 l)), (q4, 32, rl 0), (q1, 116, ul (digs 65536 16 (num 65536 l)))] w31 := by have h9 := h32; rw [Nat.mod_eq_of_lt hlow] at h9; exact h9
        refine then_at (F := ⟨(.agg (ul l0) :: pt q1 :: pt q4 :: iN .u64 (crr l 16) :: iN .i64 16 :: pt q22 :: iN .i64 16 :: iN .i64 16 :: .bool false :: u10 9 :: u10 10 :: u10 11 :: u10 12 :: u10 13 :: u10 14 :: u10 15 :: u10 16 :: u10 17 :: u10 18 :: u10 19 :: u10 20 :: u10 21 :: u10 22 :: u10 23 :: u10 24 :: u10 25 :: u10 26 :: u10 27 :: iN .u64 (crr l 16) :: .bool true :: u7 30 :: u7 31 :: u7 32 :: u7 33 :: u7 34 :: u7 35 :: iN .i64 16 :: .bool false :: u25 38 :: u25 39 :: u25 40 :: u25 41 :: u25 42 :: u25 43 :: u25 44 :: u25 45 :: List.replicate 8 un).toArray, []⟩) (by kernel_rfl) ?_
        refine wp_seq ?_
        refine wp_block ?_
        refine wp_while (fun m A w' => ∃ (v : Nat) (u34 : Nat → Value), m = v ∧ A = ⟨(.agg (ul l0) :: pt q1 :: pt q4 :: iN .u64 (crr l 16) :: iN .i64 16 :: pt q22 :: iN .i64 16 :: iN .i64 16 :: .bool false :: u10 9 :: u10 10 :: u10 11 :: u10 12 :: u10 13 :: u10 14 :: u10 15 :: u10 16 :: u10 17 :: u10 18 :: u10 19 :: u10 20 :: u10 21 :: u10 22 :: u10 23 :: u10 24 :: u10 25 :: u10 26 :: u10 27 :: iN .u64 (crr l 16) :: .bool true :: u7 30 :: u7 31 :: u7 32 :: u7 33 :: u7 34 :: u7 35 :: iN .i64 16 :: .bool false :: u25 38 :: u25 39 :: u25 40 :: u25 41 :: u25 42 :: u25 43 :: u25 44 :: u25 45 :: u34 46 :: u34 47 :: u34 48 :: u34 49 :: u34 50 :: u34 51 :: u34 52 :: List.replicate 1 un).toArray, []⟩ ∧ HA w [(q22, 32, rl v), (q4, 32, rl 0), (q1, 116, ul (digs 65536 16 (num 65536 l)))] w' ∧ v < 65536 ^ 16 ∧ v % P = num 65536 l0 % P) (num 65536 l) ?_ ?_
        · exact ⟨num 65536 l, fun i => (([(46, undef), (47, undef), (48, undef), (49, undef), (50, undef), (51, undef), (52, undef)] : List (Nat × Value)).find? (·.1 == i)).elim undef (·.2), rfl, by kernel_rfl, h33, hlow, hN⟩
        rintro v _ w35 ⟨_, u34, rfl, rfl, h36, hv16, hvN⟩
        refine wp_seq ?_
        refine wp_seq ?_
        by_cases hlt : v < P
        · -- region 15
          refine wp_region_sure ⟨(.agg (ul l0) :: pt q1 :: pt q4 :: iN .u64 (crr l 16) :: iN .i64 16 :: pt q22 :: iN .i64 16 :: iN .i64 16 :: .bool false :: u10 9 :: u10 10 :: u10 11 :: u10 12 :: u10 13 :: u10 14 :: u10 15 :: u10 16 :: u10 17 :: u10 18 :: u10 19 :: u10 20 :: u10 21 :: u10 22 :: u10 23 :: u10 24 :: u10 25 :: u10 26 :: u10 27 :: iN .u64 (crr l 16) :: .bool true :: u7 30 :: u7 31 :: u7 32 :: u7 33 :: u7 34 :: u7 35 :: iN .i64 16 :: .bool false :: u25 38 :: u25 39 :: u25 40 :: u25 41 :: u25 42 :: u25 43 :: u25 44 :: u25 45 :: rarr v :: rarr P :: .bool true :: .bool false :: u34 50 :: u34 51 :: u34 52 :: List.replicate 1 un).toArray, []⟩ (HA w [(q22, 32, rl v), (q4, 32, rl 0), (q1, 116, ul (digs 65536 16 (num 65536 l)))]) [rarr v, rarr P, .bool true, .bool false] (by kernel_rfl) (by kernel_rfl) (by kernel_rfl) (by kernel_rfl) (fun _ _ _ h => h) h36.drew ?_ ?_
          · refine AllSure.cons (OpSure.take (v := rarr v) (by kernel_rfl) (by kernel_rfl) (fun _ h => run_load_blk (by kernel_rfl) (h.get 0 rfl) Tryd.underlying32 rfl (info_rl _))) ?_
            refine AllSure.cons (sure_call (v := rarr P) (by kernel_rfl) (by kernel_rfl) enter85 HA.keep #[] (by kernel_rfl) (fun w' h' => rprime_any w')) ?_
            refine AllSure.cons (sure_call (v := .bool true) (by kernel_rfl) (by kernel_rfl) enter84 HA.keep #[rarr v, rarr P] (by kernel_rfl) (fun w' h' => rless_yes v P hv16 (by decide) hlt w')) ?_
            refine AllSure.cons (OpSure.take (v := .bool false) (by kernel_rfl) (by kernel_rfl) (fun _ _ => (by kernel_rfl))) ?_
            exact AllSure.nil
          intro w37 h38
          refine then_at (F := ⟨(.agg (ul l0) :: pt q1 :: pt q4 :: iN .u64 (crr l 16) :: iN .i64 16 :: pt q22 :: iN .i64 16 :: iN .i64 16 :: .bool false :: u10 9 :: u10 10 :: u10 11 :: u10 12 :: u10 13 :: u10 14 :: u10 15 :: u10 16 :: u10 17 :: u10 18 :: u10 19 :: u10 20 :: u10 21 :: u10 22 :: u10 23 :: u10 24 :: u10 25 :: u10 26 :: u10 27 :: iN .u64 (crr l 16) :: .bool true :: u7 30 :: u7 31 :: u7 32 :: u7 33 :: u7 34 :: u7 35 :: iN .i64 16 :: .bool false :: u25 38 :: u25 39 :: u25 40 :: u25 41 :: u25 42 :: u25 43 :: u25 44 :: u25 45 :: rarr v :: rarr P :: .bool true :: .bool false :: u34 50 :: u34 51 :: u34 52 :: List.replicate 1 un).toArray, []⟩) (by kernel_rfl) ?_
          refine wp_cond_false (by kernel_rfl) ?_
          refine wp_exit ?_
          repeat first | refine then_exit ?_ | refine block_exit ?_ | refine block_exit_ne (by decide) ?_
          refine then_at (F := ⟨(.agg (ul l0) :: pt q1 :: pt q4 :: iN .u64 (crr l 16) :: iN .i64 16 :: pt q22 :: iN .i64 16 :: iN .i64 16 :: .bool false :: u10 9 :: u10 10 :: u10 11 :: u10 12 :: u10 13 :: u10 14 :: u10 15 :: u10 16 :: u10 17 :: u10 18 :: u10 19 :: u10 20 :: u10 21 :: u10 22 :: u10 23 :: u10 24 :: u10 25 :: u10 26 :: u10 27 :: iN .u64 (crr l 16) :: .bool true :: u7 30 :: u7 31 :: u7 32 :: u7 33 :: u7 34 :: u7 35 :: iN .i64 16 :: .bool false :: u25 38 :: u25 39 :: u25 40 :: u25 41 :: u25 42 :: u25 43 :: u25 44 :: u25 45 :: rarr v :: rarr P :: .bool true :: .bool false :: u34 50 :: u34 51 :: u34 52 :: List.replicate 1 un).toArray, []⟩) (by kernel_rfl) ?_
          refine wp_seq ?_
          -- region 17
          refine wl_region ?_
          refine wl_load h38 0 rfl (by kernel_rfl) (by kernel_rfl) Tryd.underlying32 rfl (info_rl _) ?_
          refine wl_fill (c' := rl v) h38 1 rfl (by kernel_rfl) (by kernel_rfl) (by kernel_rfl) (rl_sz _ _) (info_rl _) (one_rl _) ?_
          intro w39 (h40 : HA w [(q22, 32, rl v), (q4, 32, rl v), (q1, 116, ul (digs 65536 16 (num 65536 l)))] w39)
          refine wl_nil ?_
          refine then_at (F := ⟨(.agg (ul l0) :: pt q1 :: pt q4 :: iN .u64 (crr l 16) :: iN .i64 16 :: pt q22 :: iN .i64 16 :: iN .i64 16 :: .bool false :: u10 9 :: u10 10 :: u10 11 :: u10 12 :: u10 13 :: u10 14 :: u10 15 :: u10 16 :: u10 17 :: u10 18 :: u10 19 :: u10 20 :: u10 21 :: u10 22 :: u10 23 :: u10 24 :: u10 25 :: u10 26 :: u10 27 :: iN .u64 (crr l 16) :: .bool true :: u7 30 :: u7 31 :: u7 32 :: u7 33 :: u7 34 :: u7 35 :: iN .i64 16 :: .bool false :: u25 38 :: u25 39 :: u25 40 :: u25 41 :: u25 42 :: u25 43 :: u25 44 :: u25 45 :: rarr v :: rarr P :: .bool true :: .bool false :: u34 50 :: u34 51 :: u34 52 :: rarr v :: List.replicate 0 un).toArray, []⟩) (by kernel_rfl) ?_
          refine wp_ret ?_
          repeat first | refine then_ret ?_ | refine block_ret ?_
          exact bodyPost_ret (v := rarr v) (res_cell (p := 2) (by kernel_rfl) (by kernel_rfl) (h40.get 1 rfl) Tryd.underlying32 rfl (info_rl _)) rfl ⟨by rw [← hvN, Nat.mod_eq_of_lt hlt], h40.old⟩
        · -- region 15
          refine wp_region_sure ⟨(.agg (ul l0) :: pt q1 :: pt q4 :: iN .u64 (crr l 16) :: iN .i64 16 :: pt q22 :: iN .i64 16 :: iN .i64 16 :: .bool false :: u10 9 :: u10 10 :: u10 11 :: u10 12 :: u10 13 :: u10 14 :: u10 15 :: u10 16 :: u10 17 :: u10 18 :: u10 19 :: u10 20 :: u10 21 :: u10 22 :: u10 23 :: u10 24 :: u10 25 :: u10 26 :: u10 27 :: iN .u64 (crr l 16) :: .bool true :: u7 30 :: u7 31 :: u7 32 :: u7 33 :: u7 34 :: u7 35 :: iN .i64 16 :: .bool false :: u25 38 :: u25 39 :: u25 40 :: u25 41 :: u25 42 :: u25 43 :: u25 44 :: u25 45 :: rarr v :: rarr P :: .bool false :: .bool true :: u34 50 :: u34 51 :: u34 52 :: List.replicate 1 un).toArray, []⟩ (HA w [(q22, 32, rl v), (q4, 32, rl 0), (q1, 116, ul (digs 65536 16 (num 65536 l)))]) [rarr v, rarr P, .bool false, .bool true] (by kernel_rfl) (by kernel_rfl) (by kernel_rfl) (by kernel_rfl) (fun _ _ _ h => h) h36.drew ?_ ?_
          · refine AllSure.cons (OpSure.take (v := rarr v) (by kernel_rfl) (by kernel_rfl) (fun _ h => run_load_blk (by kernel_rfl) (h.get 0 rfl) Tryd.underlying32 rfl (info_rl _))) ?_
            refine AllSure.cons (sure_call (v := rarr P) (by kernel_rfl) (by kernel_rfl) enter85 HA.keep #[] (by kernel_rfl) (fun w' h' => rprime_any w')) ?_
            refine AllSure.cons (sure_call (v := .bool false) (by kernel_rfl) (by kernel_rfl) enter84 HA.keep #[rarr v, rarr P] (by kernel_rfl) (fun w' h' => rless_no v P hv16 (by decide) hlt w')) ?_
            refine AllSure.cons (OpSure.take (v := .bool true) (by kernel_rfl) (by kernel_rfl) (fun _ _ => (by kernel_rfl))) ?_
            exact AllSure.nil
          intro w41 h42
          refine then_at (F := ⟨(.agg (ul l0) :: pt q1 :: pt q4 :: iN .u64 (crr l 16) :: iN .i64 16 :: pt q22 :: iN .i64 16 :: iN .i64 16 :: .bool false :: u10 9 :: u10 10 :: u10 11 :: u10 12 :: u10 13 :: u10 14 :: u10 15 :: u10 16 :: u10 17 :: u10 18 :: u10 19 :: u10 20 :: u10 21 :: u10 22 :: u10 23 :: u10 24 :: u10 25 :: u10 26 :: u10 27 :: iN .u64 (crr l 16) :: .bool true :: u7 30 :: u7 31 :: u7 32 :: u7 33 :: u7 34 :: u7 35 :: iN .i64 16 :: .bool false :: u25 38 :: u25 39 :: u25 40 :: u25 41 :: u25 42 :: u25 43 :: u25 44 :: u25 45 :: rarr v :: rarr P :: .bool false :: .bool true :: u34 50 :: u34 51 :: u34 52 :: List.replicate 1 un).toArray, []⟩) (by kernel_rfl) ?_
          refine wp_cond_true (by kernel_rfl) ?_
          refine wp_skip ?_
          refine then_at (F := ⟨(.agg (ul l0) :: pt q1 :: pt q4 :: iN .u64 (crr l 16) :: iN .i64 16 :: pt q22 :: iN .i64 16 :: iN .i64 16 :: .bool false :: u10 9 :: u10 10 :: u10 11 :: u10 12 :: u10 13 :: u10 14 :: u10 15 :: u10 16 :: u10 17 :: u10 18 :: u10 19 :: u10 20 :: u10 21 :: u10 22 :: u10 23 :: u10 24 :: u10 25 :: u10 26 :: u10 27 :: iN .u64 (crr l 16) :: .bool true :: u7 30 :: u7 31 :: u7 32 :: u7 33 :: u7 34 :: u7 35 :: iN .i64 16 :: .bool false :: u25 38 :: u25 39 :: u25 40 :: u25 41 :: u25 42 :: u25 43 :: u25 44 :: u25 45 :: rarr v :: rarr P :: .bool false :: .bool true :: u34 50 :: u34 51 :: u34 52 :: List.replicate 1 un).toArray, []⟩) (by kernel_rfl) ?_
          refine wp_block ?_
          -- region 16
          refine wp_region_ghost (fun _ : Nat → Nat => (⟨(.agg (ul l0) :: pt q1 :: pt q4 :: iN .u64 (crr l 16) :: iN .i64 16 :: pt q22 :: iN .i64 16 :: iN .i64 16 :: .bool false :: u10 9 :: u10 10 :: u10 11 :: u10 12 :: u10 13 :: u10 14 :: u10 15 :: u10 16 :: u10 17 :: u10 18 :: u10 19 :: u10 20 :: u10 21 :: u10 22 :: u10 23 :: u10 24 :: u10 25 :: u10 26 :: u10 27 :: iN .u64 (crr l 16) :: .bool true :: u7 30 :: u7 31 :: u7 32 :: u7 33 :: u7 34 :: u7 35 :: iN .i64 16 :: .bool false :: u25 38 :: u25 39 :: u25 40 :: u25 41 :: u25 42 :: u25 43 :: u25 44 :: u25 45 :: rarr v :: rarr P :: .bool false :: .bool true :: rarr v :: rarr P :: rarr (v - P) :: List.replicate 1 un).toArray, []⟩ : Act)) (GF w [(q22, 32, rl v), (q4, 32, rl 0), (q1, 116, ul (digs 65536 16 (num 65536 l)))] 3 0 0 q22 32 (rl (v - P))) [rarr v, rarr P, rarr (v - P), undef] (by kernel_rfl) (by kernel_rfl) (by kernel_rfl) (by kernel_rfl) (fun _ _ _ _ h => h) (fun d hd => GF.start h42.drew (hd 3 (by decide))) ?_ ?_
          · refine AllGhost.cons (gf_load 0 rfl (by decide) (fun _ => by kernel_rfl) (fun _ => by kernel_rfl) (fun _ => by kernel_rfl) Tryd.underlying32 rfl (info_rl _)) ?_
            refine AllGhost.cons (gf_call (v := rarr P) (by decide) (fun _ => by kernel_rfl) (fun _ => by kernel_rfl) enter85 #[] (fun _ => by kernel_rfl) (fun w' => rprime_any w')) ?_
            refine AllGhost.cons (gf_call (v := rarr (v - P)) (by decide) (fun _ => by kernel_rfl) (fun _ => by kernel_rfl) enter93 #[rarr v, rarr P] (fun _ => by kernel_rfl) (fun w' => rminus_any v P hv16 (Nat.le_of_not_lt hlt) w')) ?_
            refine AllGhost.cons (gf_fill rfl (rl_sz _ _) (fun _ => by kernel_rfl) (fun _ => by kernel_rfl) (fun _ => by kernel_rfl) (fun _ => by kernel_rfl) (info_rl _) (one_rl _) (by decide) (by kernel_rfl)) ?_
            exact AllGhost.nil
          intro _ w43 g44
          have h45 : HA w [(q22, 32, rl (v - P)), (q4, 32, rl 0), (q1, 116, ul (digs 65536 16 (num 65536 l)))] w43 := g44.held
          clear g44
          refine block_normal ?_
          exact then_I ⟨v - P, (Nat.sub_lt (Nat.lt_of_lt_of_le P_pos (Nat.le_of_not_lt hlt)) P_pos), v - P, fun i => (([(46, rarr v), (47, rarr P), (48, .bool false), (49, .bool true), (50, rarr v), (51, rarr P), (52, rarr (v - P))] : List (Nat × Value)).find? (·.1 == i)).elim undef (·.2), rfl, by kernel_rfl, h45, Nat.lt_of_le_of_lt (Nat.sub_le v P) hv16, (by rw [← hvN]; exact (Nat.mod_eq_sub_mod (Nat.le_of_not_lt hlt)).symm)⟩
    · -- region 8
      refine wl_region ?_
      refine wl_val (iN .u64 (crr l 16)) (by kernel_rfl) (by kernel_rfl) ?_
      refine wl_val (.bool false) (by kernel_rfl) (run_eqi (k := .u64) (a := crr l 16) (b := 0) (by kernel_rfl) (by kernel_rfl) false (decide_eq_false hc)) ?_
      refine wl_nil ?_
      refine then_at (F := ⟨(.agg (ul l0) :: pt q1 :: pt q4 :: iN .u64 (crr l 16) :: iN .i64 16 :: un :: un :: iN .i64 16 :: .bool false :: u10 9 :: u10 10 :: u10 11 :: u10 12 :: u10 13 :: u10 14 :: u10 15 :: u10 16 :: u10 17 :: u10 18 :: u10 19 :: u10 20 :: u10 21 :: u10 22 :: u10 23 :: u10 24 :: u10 25 :: u10 26 :: u10 27 :: iN .u64 (crr l 16) :: .bool false :: u7 30 :: u7 31 :: u7 32 :: u7 33 :: u7 34 :: u7 35 :: List.replicate 18 un).toArray, []⟩) (by kernel_rfl) ?_
      refine wp_cond_false (by kernel_rfl) ?_
      refine wp_skip ?_
      refine then_at (F := ⟨(.agg (ul l0) :: pt q1 :: pt q4 :: iN .u64 (crr l 16) :: iN .i64 16 :: un :: un :: iN .i64 16 :: .bool false :: u10 9 :: u10 10 :: u10 11 :: u10 12 :: u10 13 :: u10 14 :: u10 15 :: u10 16 :: u10 17 :: u10 18 :: u10 19 :: u10 20 :: u10 21 :: u10 22 :: u10 23 :: u10 24 :: u10 25 :: u10 26 :: u10 27 :: iN .u64 (crr l 16) :: .bool false :: u7 30 :: u7 31 :: u7 32 :: u7 33 :: u7 34 :: u7 35 :: List.replicate 18 un).toArray, []⟩) (by kernel_rfl) ?_
      -- region 9
      refine wl_region ?_
      refine wl_val (.pointer (some ⟨q1, 0, none⟩)) (by kernel_rfl) (run_addr_arr (q := q1) (a := 0) Tryd.underlying116 (fun w => Tryd.sizeOf22 w) (by kernel_rfl) (by kernel_rfl) (by decide)) ?_
      refine wl_val (iN .u64 (dg (digs 65536 16 (num 65536 l)) 0)) (by kernel_rfl) (run_load1 (fun w => Tryd.isAgg22 w) (by kernel_rfl) (((h21.get 1 rfl).cell 0).trans (ul_get _ 0 (by rw [digs_length]; decide)))) ?_
      refine wl_val (iN .u64 (crr l 16)) (by kernel_rfl) (by kernel_rfl) ?_
      refine wl_val (iN .u64 (38 * (crr l 16))) (by kernel_rfl) (run_mul (k := .u64) (a := 38) (b := crr l 16) (by kernel_rfl) (by kernel_rfl) (by simp only [top]; omega)) ?_
      refine wl_val (iN .u64 ((dg (digs 65536 16 (num 65536 l)) 0) + (38 * (crr l 16)))) (by kernel_rfl) (run_add (k := .u64) (a := dg (digs 65536 16 (num 65536 l)) 0) (b := 38 * (crr l 16)) (by kernel_rfl) (by kernel_rfl) (by simp only [top]; omega)) ?_
      refine wl_val (.pointer (some ⟨q1, 0, none⟩)) (by kernel_rfl) (run_addr_arr (q := q1) (a := 0) Tryd.underlying116 (fun w => Tryd.sizeOf22 w) (by kernel_rfl) (by kernel_rfl) (by decide)) ?_
      refine wl_put (k := .u64) (z := (((dg (digs 65536 16 (num 65536 l)) 0) + (38 * (crr l 16)) : Nat) : Int)) h21 1 rfl 0 (by rw [ul_size, digs_length]; decide) (by kernel_rfl) (fun w => Tryd.sizeOf22 w) (by kernel_rfl) (by kernel_rfl) ?_
      intro w46 h47
      have h48 : HA w [(q4, 32, rl 0), (q1, 116, ul (again l))] w46 := (by unfold again; rw [← ul_put]; exact h47)
      clear h47
      refine wl_nil ?_
      refine block_normal ?_
      exact then_I ⟨num 65536 (again l), again_less l hl hc, again l, fun i => (([(3, iN .u64 (crr l 16)), (4, iN .i64 16), (7, iN .i64 16), (8, .bool false), (9, u10 9), (10, u10 10), (11, u10 11), (12, u10 12), (13, u10 13), (14, u10 14), (15, u10 15), (16, u10 16), (17, u10 17), (18, u10 18), (19, u10 19), (20, u10 20), (21, u10 21), (22, u10 22), (23, u10 23), (24, u10 24), (25, u10 25), (26, u10 26), (27, u10 27), (28, iN .u64 (crr l 16)), (29, .bool false), (30, .pointer (some ⟨q1, 0, none⟩)), (31, iN .u64 (dg (digs 65536 16 (num 65536 l)) 0)), (32, iN .u64 (crr l 16)), (33, iN .u64 (38 * (crr l 16))), (34, iN .u64 ((dg (digs 65536 16 (num 65536 l)) 0) + (38 * (crr l 16)))), (35, .pointer (some ⟨q1, 0, none⟩))] : List (Nat × Value)).find? (·.1 == i)).elim undef (·.2), rfl, by kernel_rfl, h48, again_len l, again_bound l hb, (again_mod l hl).trans hN⟩
end Go.Proofs.YtpaendmdcdeemaaDoor
