/-
  The reference's order, double, below, less.
-/
import Derived.Test.YtdblnbcclfenkaaDoorRefS0
namespace Go.Proofs.YtdblnbcclfenkaaDoor
open Go.RowKit Num


set_option linter.unusedVariables false in
set_option maxRecDepth 100000 in
set_option maxHeartbeats 2000000 in
theorem rorder_any (w : World) :
    Calls Tryd.prog 37 #[] w fun e w' => e = .returned (rarr Lq) ∧ Below w.heap.size w w' := by
  have H0 := HA.start w
  go_enter Tryd.func37, Tryd.ntmps37
  refine wp_seq ?_
  -- region 0
  refine wl_region ?_
  refine wl_make H0 37 (by kernel_rfl) run_alloc37 ?_
  intro q1 w2 h3
  refine wl_nil ?_
  refine then_at (F := ⟨(pt q1 :: List.replicate 1 un).toArray, []⟩) (by kernel_rfl) ?_
  refine wp_seq ?_
  -- region 1
  refine wl_region ?_
  refine wl_val (rarr Lq) (by kernel_rfl) (by kernel_rfl) ?_
  refine wl_fill (c' := rl Lq) h3 0 rfl (by kernel_rfl) (by kernel_rfl) (by kernel_rfl) (rl_sz _ _) (info_rl _) (one_rl _) ?_
  intro w4 (h5 : HA w [(q1, 37, rl Lq)] w4)
  refine wl_nil ?_
  refine then_at (F := ⟨(pt q1 :: rarr Lq :: List.replicate 0 un).toArray, []⟩) (by kernel_rfl) ?_
  refine wp_ret ?_
  repeat first | refine then_ret ?_ | refine block_ret ?_
  exact bodyPost_ret (v := rarr (Lq)) (res_cell (p := 0) (by kernel_rfl) (by kernel_rfl) (h5.get 0 rfl) Tryd.underlying37 rfl (info_rl _)) rfl ⟨rfl, h5.old⟩

set_option linter.unusedVariables false in
set_option maxRecDepth 100000 in
set_option maxHeartbeats 2000000 in
theorem rdouble_any (a : Nat) (w : World) :
    Calls Tryd.prog 38 #[rarr a] w fun e w' => e = .returned (rarr (2 * a)) ∧ Below w.heap.size w w' := by
  have H0 := HA.start w
  go_enter Tryd.func38, Tryd.ntmps38
  refine wp_seq ?_
  -- region 0
  refine wl_region ?_
  refine wl_make H0 37 (by kernel_rfl) (run_box37 (c := rl a) (by kernel_rfl)) ?_
  intro q1 w2 h3
  refine wl_make h3 37 (by kernel_rfl) run_alloc37 ?_
  intro q4 w5 h6
  refine wl_nil ?_
  refine then_at (F := ⟨(rarr a :: pt q1 :: pt q4 :: List.replicate 20 un).toArray, []⟩) (by kernel_rfl) ?_
  refine wp_seq ?_
  -- region 1
  refine wl_region ?_
  refine wl_val (iN .i64 0) (by kernel_rfl) (by kernel_rfl) ?_
  refine wl_nil ?_
  refine then_at (F := ⟨(rarr a :: pt q1 :: pt q4 :: iN .i64 0 :: List.replicate 19 un).toArray, []⟩) (by kernel_rfl) ?_
  refine wp_seq ?_
  refine wp_seq ?_
  -- region 2
  refine wl_region ?_
  refine wl_val (iN .i64 0) (by kernel_rfl) (by kernel_rfl) ?_
  refine wl_nil ?_
  refine then_at (F := ⟨(rarr a :: pt q1 :: pt q4 :: iN .i64 0 :: iN .i64 0 :: List.replicate 18 un).toArray, []⟩) (by kernel_rfl) ?_
  refine wp_block ?_
  refine wp_count (fun k A w' => ∃ u7 : Nat → Value, A = ⟨(rarr a :: pt q1 :: pt q4 :: iN .i64 (cy2 a k) :: iN .i64 k :: u7 5 :: u7 6 :: u7 7 :: u7 8 :: u7 9 :: u7 10 :: u7 11 :: u7 12 :: u7 13 :: u7 14 :: u7 15 :: u7 16 :: u7 17 :: u7 18 :: u7 19 :: u7 20 :: u7 21 :: List.replicate 1 un).toArray, []⟩ ∧ HA w [(q4, 37, rl 0), (q1, 37, mx (2 * a) a k)] w') 36 ?_ ?_ ?_
  · exact ⟨fun ii => (([(5, undef), (6, undef), (7, undef), (8, undef), (9, undef), (10, undef), (11, undef), (12, undef), (13, undef), (14, undef), (15, undef), (16, undef), (17, undef), (18, undef), (19, undef), (20, undef), (21, undef)] : List (Nat × Value)).find? (·.1 == ii)).elim undef (·.2), by kernel_rfl, h6⟩
  · rintro k hk _ w8 ⟨u7, rfl, h9⟩
    have hd := Nat.mod_lt (a / 256 ^ k) (show 256 > 0 by decide)
    have hc := cy2_lt a k
    refine wp_seq ?_
    refine wp_seq ?_
    -- region 3
    refine wl_region ?_
    refine wl_val (iN .i64 k) (by kernel_rfl) (by kernel_rfl) ?_
    refine wl_val (.bool true) (by kernel_rfl) (run_lss (k := .i64) (a := k) (b := 36) (by kernel_rfl) (by kernel_rfl) true (decide_eq_true hk)) ?_
    refine wl_nil ?_
    refine then_at (F := ⟨(rarr a :: pt q1 :: pt q4 :: iN .i64 (cy2 a k) :: iN .i64 k :: u7 5 :: iN .i64 k :: .bool true :: u7 8 :: u7 9 :: u7 10 :: u7 11 :: u7 12 :: u7 13 :: u7 14 :: u7 15 :: u7 16 :: u7 17 :: u7 18 :: u7 19 :: u7 20 :: u7 21 :: List.replicate 1 un).toArray, []⟩) (by kernel_rfl) ?_
    refine wp_cond_true (by kernel_rfl) ?_
    refine wp_skip ?_
    refine then_at (F := ⟨(rarr a :: pt q1 :: pt q4 :: iN .i64 (cy2 a k) :: iN .i64 k :: u7 5 :: iN .i64 k :: .bool true :: u7 8 :: u7 9 :: u7 10 :: u7 11 :: u7 12 :: u7 13 :: u7 14 :: u7 15 :: u7 16 :: u7 17 :: u7 18 :: u7 19 :: u7 20 :: u7 21 :: List.replicate 1 un).toArray, []⟩) (by kernel_rfl) ?_
    refine wp_seq ?_
    refine wp_block ?_
    refine wp_seq ?_
    -- region 5
    refine wl_region ?_
    refine wl_val (iN .i64 k) (by kernel_rfl) (by kernel_rfl) ?_
    refine wl_val (.pointer (some ⟨q1, k, none⟩)) (by kernel_rfl) (run_addr_arr (q := q1) (a := k) Tryd.underlying37 (fun w => Tryd.sizeOf3 w) (by kernel_rfl) (by kernel_rfl) (by omega)) ?_
    refine wl_val (iN .i64 (a / 256 ^ k % 256)) (by kernel_rfl) (run_load1 (fun w => Tryd.isAgg3 w) (by kernel_rfl) (((h9.get 1 rfl).cell k).trans (mx_get (2 * a) a k hk))) ?_
    refine wl_val (iN .i64 (2 * (a / 256 ^ k % 256))) (by kernel_rfl) (run_mul (k := .i64) (a := 2) (b := a / 256 ^ k % 256) (by kernel_rfl) (by kernel_rfl) (by simp only [top]; omega)) ?_
    refine wl_val (iN .i64 (cy2 a k)) (by kernel_rfl) (by kernel_rfl) ?_
    refine wl_val (iN .i64 ((2 * (a / 256 ^ k % 256)) + (cy2 a k))) (by kernel_rfl) (run_add (k := .i64) (a := 2 * (a / 256 ^ k % 256)) (b := cy2 a k) (by kernel_rfl) (by kernel_rfl) (by simp only [top]; omega)) ?_
    refine wl_val (iN .i64 ((2 * (a / 256 ^ k % 256)) + (cy2 a k))) (by kernel_rfl) (by kernel_rfl) ?_
    refine wl_nil ?_
    refine then_at (F := ⟨(rarr a :: pt q1 :: pt q4 :: iN .i64 (cy2 a k) :: iN .i64 k :: iN .i64 ((2 * (a / 256 ^ k % 256)) + (cy2 a k)) :: iN .i64 k :: .bool true :: u7 8 :: u7 9 :: iN .i64 k :: .pointer (some ⟨q1, k, none⟩) :: iN .i64 (a / 256 ^ k % 256) :: iN .i64 (2 * (a / 256 ^ k % 256)) :: iN .i64 (cy2 a k) :: iN .i64 ((2 * (a / 256 ^ k % 256)) + (cy2 a k)) :: u7 16 :: u7 17 :: u7 18 :: u7 19 :: u7 20 :: u7 21 :: List.replicate 1 un).toArray, []⟩) (by kernel_rfl) ?_
    refine wp_seq ?_
    -- region 6
    refine wl_region ?_
    refine wl_val (iN .i64 k) (by kernel_rfl) (by kernel_rfl) ?_
    refine wl_val (iN .i64 ((2 * (a / 256 ^ k % 256)) + (cy2 a k))) (by kernel_rfl) (by kernel_rfl) ?_
    refine wl_val (iN .i64 (((2 * (a / 256 ^ k % 256)) + (cy2 a k)) % 256)) (by kernel_rfl) (run_rem (k := .i64) (a := (2 * (a / 256 ^ k % 256)) + (cy2 a k)) (b := 256) (by kernel_rfl) (by kernel_rfl) (by omega)) ?_
    refine wl_val (.pointer (some ⟨q1, k, none⟩)) (by kernel_rfl) (run_addr_arr (q := q1) (a := k) Tryd.underlying37 (fun w => Tryd.sizeOf3 w) (by kernel_rfl) (by kernel_rfl) (by omega)) ?_
    refine wl_put (k := .i64) (z := ((((2 * (a / 256 ^ k % 256)) + (cy2 a k)) % 256 : Nat) : Int)) h9 1 rfl k (by rw [mx_size _ _ _ (by omega)]; exact hk) (by kernel_rfl) (fun w => Tryd.sizeOf3 w) (by kernel_rfl) (by kernel_rfl) ?_
    intro w10 h11
    have h12 : HA w [(q4, 37, rl 0), (q1, 37, mx (2 * a) a (k + 1))] w10 := (by rw [← mx_put (2 * a) a k _ hk (mod_twice 256 a k rfl)]; exact h11)
    clear h11
    refine wl_nil ?_
    refine then_at (F := ⟨(rarr a :: pt q1 :: pt q4 :: iN .i64 (cy2 a k) :: iN .i64 k :: iN .i64 ((2 * (a / 256 ^ k % 256)) + (cy2 a k)) :: iN .i64 k :: .bool true :: u7 8 :: u7 9 :: iN .i64 k :: .pointer (some ⟨q1, k, none⟩) :: iN .i64 (a / 256 ^ k % 256) :: iN .i64 (2 * (a / 256 ^ k % 256)) :: iN .i64 (cy2 a k) :: iN .i64 ((2 * (a / 256 ^ k % 256)) + (cy2 a k)) :: iN .i64 k :: iN .i64 ((2 * (a / 256 ^ k % 256)) + (cy2 a k)) :: iN .i64 (((2 * (a / 256 ^ k % 256)) + (cy2 a k)) % 256) :: .pointer (some ⟨q1, k, none⟩) :: u7 20 :: u7 21 :: List.replicate 1 un).toArray, []⟩) (by kernel_rfl) ?_
    -- region 7
    refine wl_region ?_
    refine wl_val (iN .i64 ((2 * (a / 256 ^ k % 256)) + (cy2 a k))) (by kernel_rfl) (by kernel_rfl) ?_
    refine wl_val (iN .i64 (((2 * (a / 256 ^ k % 256)) + (cy2 a k)) / 256)) (by kernel_rfl) (run_quo (k := .i64) (a := (2 * (a / 256 ^ k % 256)) + (cy2 a k)) (b := 256) (by kernel_rfl) (by kernel_rfl) (by omega) (by simp only [top]; omega)) ?_
    refine wl_val (iN .i64 (((2 * (a / 256 ^ k % 256)) + (cy2 a k)) / 256)) (by kernel_rfl) (by kernel_rfl) ?_
    refine wl_nil ?_
    refine block_normal ?_
    refine then_at (F := ⟨(rarr a :: pt q1 :: pt q4 :: iN .i64 (((2 * (a / 256 ^ k % 256)) + (cy2 a k)) / 256) :: iN .i64 k :: iN .i64 ((2 * (a / 256 ^ k % 256)) + (cy2 a k)) :: iN .i64 k :: .bool true :: u7 8 :: u7 9 :: iN .i64 k :: .pointer (some ⟨q1, k, none⟩) :: iN .i64 (a / 256 ^ k % 256) :: iN .i64 (2 * (a / 256 ^ k % 256)) :: iN .i64 (cy2 a k) :: iN .i64 ((2 * (a / 256 ^ k % 256)) + (cy2 a k)) :: iN .i64 k :: iN .i64 ((2 * (a / 256 ^ k % 256)) + (cy2 a k)) :: iN .i64 (((2 * (a / 256 ^ k % 256)) + (cy2 a k)) % 256) :: .pointer (some ⟨q1, k, none⟩) :: iN .i64 ((2 * (a / 256 ^ k % 256)) + (cy2 a k)) :: iN .i64 (((2 * (a / 256 ^ k % 256)) + (cy2 a k)) / 256) :: List.replicate 1 un).toArray, []⟩) (by kernel_rfl) ?_
    -- region 4
    refine wl_region ?_
    refine wl_val (iN .i64 k) (by kernel_rfl) (by kernel_rfl) ?_
    refine wl_val (iN .i64 (k + 1)) (by kernel_rfl) (run_add (k := .i64) (a := k) (b := 1) (by kernel_rfl) (by kernel_rfl) (by simp only [top]; omega)) ?_
    refine wl_val (iN .i64 (k + 1)) (by kernel_rfl) (by kernel_rfl) ?_
    refine wl_nil ?_
    exact then_I ⟨fun ii => (([(5, iN .i64 ((2 * (a / 256 ^ k % 256)) + (cy2 a k))), (6, iN .i64 k), (7, .bool true), (8, iN .i64 k), (9, iN .i64 (k + 1)), (10, iN .i64 k), (11, .pointer (some ⟨q1, k, none⟩)), (12, iN .i64 (a / 256 ^ k % 256)), (13, iN .i64 (2 * (a / 256 ^ k % 256))), (14, iN .i64 (cy2 a k)), (15, iN .i64 ((2 * (a / 256 ^ k % 256)) + (cy2 a k))), (16, iN .i64 k), (17, iN .i64 ((2 * (a / 256 ^ k % 256)) + (cy2 a k))), (18, iN .i64 (((2 * (a / 256 ^ k % 256)) + (cy2 a k)) % 256)), (19, .pointer (some ⟨q1, k, none⟩)), (20, iN .i64 ((2 * (a / 256 ^ k % 256)) + (cy2 a k))), (21, iN .i64 (((2 * (a / 256 ^ k % 256)) + (cy2 a k)) / 256))] : List (Nat × Value)).find? (·.1 == ii)).elim undef (·.2), by kernel_rfl, h12⟩
  · rintro _ w13 ⟨u7, rfl, h14⟩
    refine wp_seq ?_
    refine wp_seq ?_
    -- region 3
    refine wl_region ?_
    refine wl_val (iN .i64 36) (by kernel_rfl) (by kernel_rfl) ?_
    refine wl_val (.bool false) (by kernel_rfl) (run_lss (k := .i64) (a := 36) (b := 36) (by kernel_rfl) (by kernel_rfl) false (by decide)) ?_
    refine wl_nil ?_
    refine then_at (F := ⟨(rarr a :: pt q1 :: pt q4 :: iN .i64 (cy2 a 36) :: iN .i64 36 :: u7 5 :: iN .i64 36 :: .bool false :: u7 8 :: u7 9 :: u7 10 :: u7 11 :: u7 12 :: u7 13 :: u7 14 :: u7 15 :: u7 16 :: u7 17 :: u7 18 :: u7 19 :: u7 20 :: u7 21 :: List.replicate 1 un).toArray, []⟩) (by kernel_rfl) ?_
    refine wp_cond_false (by kernel_rfl) ?_
    refine wp_exit ?_
    repeat first | refine then_exit ?_ | refine block_exit ?_ | refine block_exit_ne (by decide) ?_
    have h15 : HA w [(q4, 37, rl 0), (q1, 37, rl (2 * a))] w13 := by rw [← mx_end (2 * a) (a)]; exact h14
    refine then_at (F := ⟨(rarr a :: pt q1 :: pt q4 :: iN .i64 (cy2 a 36) :: iN .i64 36 :: u7 5 :: iN .i64 36 :: .bool false :: u7 8 :: u7 9 :: u7 10 :: u7 11 :: u7 12 :: u7 13 :: u7 14 :: u7 15 :: u7 16 :: u7 17 :: u7 18 :: u7 19 :: u7 20 :: u7 21 :: List.replicate 1 un).toArray, []⟩) (by kernel_rfl) ?_
    refine wp_seq ?_
    -- region 8
    refine wl_region ?_
    refine wl_load h15 1 rfl (by kernel_rfl) (by kernel_rfl) Tryd.underlying37 rfl (info_rl _) ?_
    refine wl_fill (c' := rl (2 * a)) h15 0 rfl (by kernel_rfl) (by kernel_rfl) (by kernel_rfl) (rl_sz _ _) (info_rl _) (one_rl _) ?_
    intro w16 (h17 : HA w [(q4, 37, rl (2 * a)), (q1, 37, rl (2 * a))] w16)
    refine wl_nil ?_
    refine then_at (F := ⟨(rarr a :: pt q1 :: pt q4 :: iN .i64 (cy2 a 36) :: iN .i64 36 :: u7 5 :: iN .i64 36 :: .bool false :: u7 8 :: u7 9 :: u7 10 :: u7 11 :: u7 12 :: u7 13 :: u7 14 :: u7 15 :: u7 16 :: u7 17 :: u7 18 :: u7 19 :: u7 20 :: u7 21 :: rarr (2 * a) :: List.replicate 0 un).toArray, []⟩) (by kernel_rfl) ?_
    refine wp_ret ?_
    repeat first | refine then_ret ?_ | refine block_ret ?_
    exact bodyPost_ret (v := rarr (2 * a)) (res_cell (p := 2) (by kernel_rfl) (by kernel_rfl) (h17.get 0 rfl) Tryd.underlying37 rfl (info_rl _)) rfl ⟨rfl, h17.old⟩

theorem rb_start {a b : Nat} (ha : a < 256 ^ 36) (hb : b < 256 ^ 36) : a / 256 ^ (36 - 0) = b / 256 ^ (36 - 0) := by
  rw [Nat.sub_zero, Nat.div_eq_of_lt ha, Nat.div_eq_of_lt hb]
theorem rb_end {a b : Nat} (h : a / 256 ^ (36 - 36) = b / 256 ^ (36 - 36)) : ¬ a < b := by
  rw [Nat.sub_self, Nat.pow_zero, Nat.div_one, Nat.div_one] at h
  omega

set_option linter.unusedVariables false in
set_option maxRecDepth 100000 in
set_option maxHeartbeats 2000000 in
theorem rbelow_any (a b : Nat) (ha : a < 256 ^ 36) (hb : b < 256 ^ 36) (w : World) :
    Calls Tryd.prog 39 #[rarr a, rarr b] w fun e w' => e = .returned (.bool (decide (a < b))) ∧ Below w.heap.size w w' := by
  have H0 := HA.start w
  go_enter Tryd.func39, Tryd.ntmps39
  refine wp_seq ?_
  -- region 0
  refine wl_region ?_
  refine wl_make H0 37 (by kernel_rfl) (run_box37 (c := rl a) (by kernel_rfl)) ?_
  intro q1 w2 h3
  refine wl_make h3 37 (by kernel_rfl) (run_box37 (c := rl b) (by kernel_rfl)) ?_
  intro q4 w5 h6
  refine wl_val (.bool false) (by kernel_rfl) (by kernel_rfl) ?_
  refine wl_nil ?_
  refine then_at (F := ⟨(rarr a :: rarr b :: pt q1 :: pt q4 :: .bool false :: List.replicate 19 un).toArray, []⟩) (by kernel_rfl) ?_
  refine wp_seq ?_
  refine wp_seq ?_
  -- region 1
  refine wl_region ?_
  refine wl_val (iN .i64 35) (by kernel_rfl) (by kernel_rfl) ?_
  refine wl_nil ?_
  refine then_at (F := ⟨(rarr a :: rarr b :: pt q1 :: pt q4 :: .bool false :: iN .i64 35 :: List.replicate 18 un).toArray, []⟩) (by kernel_rfl) ?_
  refine wp_block ?_
  refine wp_count (fun k A w' => ∃ u7 : Nat → Value, A = ⟨(rarr a :: rarr b :: pt q1 :: pt q4 :: u7 4 :: dnv (36 - k) :: u7 6 :: u7 7 :: u7 8 :: u7 9 :: u7 10 :: u7 11 :: u7 12 :: u7 13 :: u7 14 :: u7 15 :: u7 16 :: u7 17 :: u7 18 :: u7 19 :: u7 20 :: u7 21 :: u7 22 :: u7 23 :: List.replicate 0 un).toArray, []⟩ ∧ HA w [(q4, 37, rl b), (q1, 37, rl a)] w' ∧ a / 256 ^ (36 - k) = b / 256 ^ (36 - k)) 36 ?_ ?_ ?_
  · exact ⟨fun ii => (([(4, .bool false), (6, undef), (7, undef), (8, undef), (9, undef), (10, undef), (11, undef), (12, undef), (13, undef), (14, undef), (15, undef), (16, undef), (17, undef), (18, undef), (19, undef), (20, undef), (21, undef), (22, undef), (23, undef)] : List (Nat × Value)).find? (·.1 == ii)).elim undef (·.2), by kernel_rfl, h6, rb_start ha hb⟩
  · rintro k hk _ w8 ⟨u7, rfl, h9, hp⟩
    obtain ⟨j, hj, ej⟩ : ∃ j, j < 36 ∧ 36 - k = j + 1 := ⟨35 - k, by omega, by omega⟩
    have ej2 : 36 - (k + 1) = j := by omega
    rw [ej] at hp
    rw [ej, ej2]
    have hs := less_step 256 a b j hp
    refine wp_seq ?_
    refine wp_seq ?_
    -- region 2
    refine wl_region ?_
    refine wl_val (iN .i64 j) (by kernel_rfl) (by kernel_rfl) ?_
    refine wl_val (.bool true) (by kernel_rfl) (run_geq0 (k := .i64) (a := ((j : Nat) : Int)) (b := 0) (by kernel_rfl) (by kernel_rfl) true (decide_eq_true (by omega))) ?_
    refine wl_nil ?_
    refine then_at (F := ⟨(rarr a :: rarr b :: pt q1 :: pt q4 :: u7 4 :: iN .i64 j :: iN .i64 j :: .bool true :: u7 8 :: u7 9 :: u7 10 :: u7 11 :: u7 12 :: u7 13 :: u7 14 :: u7 15 :: u7 16 :: u7 17 :: u7 18 :: u7 19 :: u7 20 :: u7 21 :: u7 22 :: u7 23 :: List.replicate 0 un).toArray, []⟩) (by kernel_rfl) ?_
    refine wp_cond_true (by kernel_rfl) ?_
    refine wp_skip ?_
    refine then_at (F := ⟨(rarr a :: rarr b :: pt q1 :: pt q4 :: u7 4 :: iN .i64 j :: iN .i64 j :: .bool true :: u7 8 :: u7 9 :: u7 10 :: u7 11 :: u7 12 :: u7 13 :: u7 14 :: u7 15 :: u7 16 :: u7 17 :: u7 18 :: u7 19 :: u7 20 :: u7 21 :: u7 22 :: u7 23 :: List.replicate 0 un).toArray, []⟩) (by kernel_rfl) ?_
    refine wp_seq ?_
    refine wp_block ?_
    refine wp_seq ?_
    by_cases hxy : a / 256 ^ j % 256 = b / 256 ^ j % 256
    · -- region 4
      refine wp_region_sure ⟨(rarr a :: rarr b :: pt q1 :: pt q4 :: u7 4 :: iN .i64 j :: iN .i64 j :: .bool true :: u7 8 :: u7 9 :: iN .i64 j :: .pointer (some ⟨q1, j, none⟩) :: iN .i64 (a / 256 ^ j % 256) :: iN .i64 j :: .pointer (some ⟨q4, j, none⟩) :: iN .i64 (b / 256 ^ j % 256) :: .bool false :: u7 17 :: u7 18 :: u7 19 :: u7 20 :: u7 21 :: u7 22 :: u7 23 :: List.replicate 0 un).toArray, []⟩ (HA w [(q4, 37, rl b), (q1, 37, rl a)]) [iN .i64 j, .pointer (some ⟨q1, j, none⟩), iN .i64 (a / 256 ^ j % 256), iN .i64 j, .pointer (some ⟨q4, j, none⟩), iN .i64 (b / 256 ^ j % 256), .bool false] (by kernel_rfl) (by kernel_rfl) (by kernel_rfl) (by kernel_rfl) (fun _ _ _ h => h) h9.drew ?_ ?_
      · refine AllSure.cons (OpSure.take (v := iN .i64 j) (by kernel_rfl) (by kernel_rfl) (fun _ _ => (by kernel_rfl))) ?_
        refine AllSure.cons (OpSure.take (v := .pointer (some ⟨q1, j, none⟩)) (by kernel_rfl) (by kernel_rfl) (fun _ _ => (run_addr_arr (q := q1) (a := j) Tryd.underlying37 (fun w => Tryd.sizeOf3 w) (by kernel_rfl) (by kernel_rfl) (by omega)))) ?_
        refine AllSure.cons (OpSure.take (v := iN .i64 (a / 256 ^ j % 256)) (by kernel_rfl) (by kernel_rfl) (fun _ h => run_load1 (fun w => Tryd.isAgg3 w) (by kernel_rfl) (((h.get 1 rfl).cell j).trans (rl_get a j (by omega))))) ?_
        refine AllSure.cons (OpSure.take (v := iN .i64 j) (by kernel_rfl) (by kernel_rfl) (fun _ _ => (by kernel_rfl))) ?_
        refine AllSure.cons (OpSure.take (v := .pointer (some ⟨q4, j, none⟩)) (by kernel_rfl) (by kernel_rfl) (fun _ _ => (run_addr_arr (q := q4) (a := j) Tryd.underlying37 (fun w => Tryd.sizeOf3 w) (by kernel_rfl) (by kernel_rfl) (by omega)))) ?_
        refine AllSure.cons (OpSure.take (v := iN .i64 (b / 256 ^ j % 256)) (by kernel_rfl) (by kernel_rfl) (fun _ h => run_load1 (fun w => Tryd.isAgg3 w) (by kernel_rfl) (((h.get 0 rfl).cell j).trans (rl_get b j (by omega))))) ?_
        refine AllSure.cons (OpSure.take (v := .bool false) (by kernel_rfl) (by kernel_rfl) (fun _ _ => (run_nei (k := .i64) (a := a / 256 ^ j % 256) (b := b / 256 ^ j % 256) (by kernel_rfl) (by kernel_rfl) false (by rw [decide_eq_false]; exact fun h => h hxy)))) ?_
        exact AllSure.nil
      intro w10 h11
      refine then_at (F := ⟨(rarr a :: rarr b :: pt q1 :: pt q4 :: u7 4 :: iN .i64 j :: iN .i64 j :: .bool true :: u7 8 :: u7 9 :: iN .i64 j :: .pointer (some ⟨q1, j, none⟩) :: iN .i64 (a / 256 ^ j % 256) :: iN .i64 j :: .pointer (some ⟨q4, j, none⟩) :: iN .i64 (b / 256 ^ j % 256) :: .bool false :: u7 17 :: u7 18 :: u7 19 :: u7 20 :: u7 21 :: u7 22 :: u7 23 :: List.replicate 0 un).toArray, []⟩) (by kernel_rfl) ?_
      refine wp_cond_false (by kernel_rfl) ?_
      refine wp_skip ?_
      refine block_normal ?_
      refine then_at (F := ⟨(rarr a :: rarr b :: pt q1 :: pt q4 :: u7 4 :: iN .i64 j :: iN .i64 j :: .bool true :: u7 8 :: u7 9 :: iN .i64 j :: .pointer (some ⟨q1, j, none⟩) :: iN .i64 (a / 256 ^ j % 256) :: iN .i64 j :: .pointer (some ⟨q4, j, none⟩) :: iN .i64 (b / 256 ^ j % 256) :: .bool false :: u7 17 :: u7 18 :: u7 19 :: u7 20 :: u7 21 :: u7 22 :: u7 23 :: List.replicate 0 un).toArray, []⟩) (by kernel_rfl) ?_
      -- region 3
      refine wl_region ?_
      refine wl_val (iN .i64 j) (by kernel_rfl) (by kernel_rfl) ?_
      refine wl_val (dnv j) (by kernel_rfl) (run_dec (j := j) (by omega) (by kernel_rfl) (by kernel_rfl)) ?_
      refine wl_val (dnv j) (by kernel_rfl) (by kernel_rfl) ?_
      refine wl_nil ?_
      exact then_I ⟨fun ii => (([(4, u7 4), (6, iN .i64 j), (7, .bool true), (8, iN .i64 j), (9, dnv j), (10, iN .i64 j), (11, .pointer (some ⟨q1, j, none⟩)), (12, iN .i64 (a / 256 ^ j % 256)), (13, iN .i64 j), (14, .pointer (some ⟨q4, j, none⟩)), (15, iN .i64 (b / 256 ^ j % 256)), (16, .bool false), (17, u7 17), (18, u7 18), (19, u7 19), (20, u7 20), (21, u7 21), (22, u7 22), (23, u7 23)] : List (Nat × Value)).find? (·.1 == ii)).elim undef (·.2), by kernel_rfl, h11, hs.1 hxy⟩
    · -- region 4
      refine wp_region_sure ⟨(rarr a :: rarr b :: pt q1 :: pt q4 :: u7 4 :: iN .i64 j :: iN .i64 j :: .bool true :: u7 8 :: u7 9 :: iN .i64 j :: .pointer (some ⟨q1, j, none⟩) :: iN .i64 (a / 256 ^ j % 256) :: iN .i64 j :: .pointer (some ⟨q4, j, none⟩) :: iN .i64 (b / 256 ^ j % 256) :: .bool true :: u7 17 :: u7 18 :: u7 19 :: u7 20 :: u7 21 :: u7 22 :: u7 23 :: List.replicate 0 un).toArray, []⟩ (HA w [(q4, 37, rl b), (q1, 37, rl a)]) [iN .i64 j, .pointer (some ⟨q1, j, none⟩), iN .i64 (a / 256 ^ j % 256), iN .i64 j, .pointer (some ⟨q4, j, none⟩), iN .i64 (b / 256 ^ j % 256), .bool true] (by kernel_rfl) (by kernel_rfl) (by kernel_rfl) (by kernel_rfl) (fun _ _ _ h => h) h9.drew ?_ ?_
      · refine AllSure.cons (OpSure.take (v := iN .i64 j) (by kernel_rfl) (by kernel_rfl) (fun _ _ => (by kernel_rfl))) ?_
        refine AllSure.cons (OpSure.take (v := .pointer (some ⟨q1, j, none⟩)) (by kernel_rfl) (by kernel_rfl) (fun _ _ => (run_addr_arr (q := q1) (a := j) Tryd.underlying37 (fun w => Tryd.sizeOf3 w) (by kernel_rfl) (by kernel_rfl) (by omega)))) ?_
        refine AllSure.cons (OpSure.take (v := iN .i64 (a / 256 ^ j % 256)) (by kernel_rfl) (by kernel_rfl) (fun _ h => run_load1 (fun w => Tryd.isAgg3 w) (by kernel_rfl) (((h.get 1 rfl).cell j).trans (rl_get a j (by omega))))) ?_
        refine AllSure.cons (OpSure.take (v := iN .i64 j) (by kernel_rfl) (by kernel_rfl) (fun _ _ => (by kernel_rfl))) ?_
        refine AllSure.cons (OpSure.take (v := .pointer (some ⟨q4, j, none⟩)) (by kernel_rfl) (by kernel_rfl) (fun _ _ => (run_addr_arr (q := q4) (a := j) Tryd.underlying37 (fun w => Tryd.sizeOf3 w) (by kernel_rfl) (by kernel_rfl) (by omega)))) ?_
        refine AllSure.cons (OpSure.take (v := iN .i64 (b / 256 ^ j % 256)) (by kernel_rfl) (by kernel_rfl) (fun _ h => run_load1 (fun w => Tryd.isAgg3 w) (by kernel_rfl) (((h.get 0 rfl).cell j).trans (rl_get b j (by omega))))) ?_
        refine AllSure.cons (OpSure.take (v := .bool true) (by kernel_rfl) (by kernel_rfl) (fun _ _ => (run_nei (k := .i64) (a := a / 256 ^ j % 256) (b := b / 256 ^ j % 256) (by kernel_rfl) (by kernel_rfl) true (decide_eq_true hxy)))) ?_
        exact AllSure.nil
      intro w12 h13
      refine then_at (F := ⟨(rarr a :: rarr b :: pt q1 :: pt q4 :: u7 4 :: iN .i64 j :: iN .i64 j :: .bool true :: u7 8 :: u7 9 :: iN .i64 j :: .pointer (some ⟨q1, j, none⟩) :: iN .i64 (a / 256 ^ j % 256) :: iN .i64 j :: .pointer (some ⟨q4, j, none⟩) :: iN .i64 (b / 256 ^ j % 256) :: .bool true :: u7 17 :: u7 18 :: u7 19 :: u7 20 :: u7 21 :: u7 22 :: u7 23 :: List.replicate 0 un).toArray, []⟩) (by kernel_rfl) ?_
      refine wp_cond_true (by kernel_rfl) ?_
      refine wp_seq ?_
      -- region 5
      refine wp_region_sure ⟨(rarr a :: rarr b :: pt q1 :: pt q4 :: .bool (decide (a / 256 ^ j % 256 < b / 256 ^ j % 256)) :: iN .i64 j :: iN .i64 j :: .bool true :: u7 8 :: u7 9 :: iN .i64 j :: .pointer (some ⟨q1, j, none⟩) :: iN .i64 (a / 256 ^ j % 256) :: iN .i64 j :: .pointer (some ⟨q4, j, none⟩) :: iN .i64 (b / 256 ^ j % 256) :: .bool true :: iN .i64 j :: .pointer (some ⟨q1, j, none⟩) :: iN .i64 (a / 256 ^ j % 256) :: iN .i64 j :: .pointer (some ⟨q4, j, none⟩) :: iN .i64 (b / 256 ^ j % 256) :: .bool (decide (a / 256 ^ j % 256 < b / 256 ^ j % 256)) :: List.replicate 0 un).toArray, []⟩ (HA w [(q4, 37, rl b), (q1, 37, rl a)]) [iN .i64 j, .pointer (some ⟨q1, j, none⟩), iN .i64 (a / 256 ^ j % 256), iN .i64 j, .pointer (some ⟨q4, j, none⟩), iN .i64 (b / 256 ^ j % 256), .bool (decide (a / 256 ^ j % 256 < b / 256 ^ j % 256)), .bool (decide (a / 256 ^ j % 256 < b / 256 ^ j % 256))] (by kernel_rfl) (by kernel_rfl) (by kernel_rfl) (by kernel_rfl) (fun _ _ _ h => h) h13.drew ?_ ?_
      · refine AllSure.cons (OpSure.take (v := iN .i64 j) (by kernel_rfl) (by kernel_rfl) (fun _ _ => (by kernel_rfl))) ?_
        refine AllSure.cons (OpSure.take (v := .pointer (some ⟨q1, j, none⟩)) (by kernel_rfl) (by kernel_rfl) (fun _ _ => (run_addr_arr (q := q1) (a := j) Tryd.underlying37 (fun w => Tryd.sizeOf3 w) (by kernel_rfl) (by kernel_rfl) (by omega)))) ?_
        refine AllSure.cons (OpSure.take (v := iN .i64 (a / 256 ^ j % 256)) (by kernel_rfl) (by kernel_rfl) (fun _ h => run_load1 (fun w => Tryd.isAgg3 w) (by kernel_rfl) (((h.get 1 rfl).cell j).trans (rl_get a j (by omega))))) ?_
        refine AllSure.cons (OpSure.take (v := iN .i64 j) (by kernel_rfl) (by kernel_rfl) (fun _ _ => (by kernel_rfl))) ?_
        refine AllSure.cons (OpSure.take (v := .pointer (some ⟨q4, j, none⟩)) (by kernel_rfl) (by kernel_rfl) (fun _ _ => (run_addr_arr (q := q4) (a := j) Tryd.underlying37 (fun w => Tryd.sizeOf3 w) (by kernel_rfl) (by kernel_rfl) (by omega)))) ?_
        refine AllSure.cons (OpSure.take (v := iN .i64 (b / 256 ^ j % 256)) (by kernel_rfl) (by kernel_rfl) (fun _ h => run_load1 (fun w => Tryd.isAgg3 w) (by kernel_rfl) (((h.get 0 rfl).cell j).trans (rl_get b j (by omega))))) ?_
        refine AllSure.cons (OpSure.take (v := .bool (decide (a / 256 ^ j % 256 < b / 256 ^ j % 256))) (by kernel_rfl) (by kernel_rfl) (fun _ _ => (run_lss (k := .i64) (a := a / 256 ^ j % 256) (b := b / 256 ^ j % 256) (by kernel_rfl) (by kernel_rfl) _ rfl))) ?_
        refine AllSure.cons (OpSure.take (v := .bool (decide (a / 256 ^ j % 256 < b / 256 ^ j % 256))) (by kernel_rfl) (by kernel_rfl) (fun _ _ => (by kernel_rfl))) ?_
        exact AllSure.nil
      intro w14 h15
      refine then_at (F := ⟨(rarr a :: rarr b :: pt q1 :: pt q4 :: .bool (decide (a / 256 ^ j % 256 < b / 256 ^ j % 256)) :: iN .i64 j :: iN .i64 j :: .bool true :: u7 8 :: u7 9 :: iN .i64 j :: .pointer (some ⟨q1, j, none⟩) :: iN .i64 (a / 256 ^ j % 256) :: iN .i64 j :: .pointer (some ⟨q4, j, none⟩) :: iN .i64 (b / 256 ^ j % 256) :: .bool true :: iN .i64 j :: .pointer (some ⟨q1, j, none⟩) :: iN .i64 (a / 256 ^ j % 256) :: iN .i64 j :: .pointer (some ⟨q4, j, none⟩) :: iN .i64 (b / 256 ^ j % 256) :: .bool (decide (a / 256 ^ j % 256 < b / 256 ^ j % 256)) :: List.replicate 0 un).toArray, []⟩) (by kernel_rfl) ?_
      refine wp_ret ?_
      repeat first | refine then_ret ?_ | refine block_ret ?_
      exact bodyPost_ret (v := .bool (decide (a / 256 ^ j % 256 < b / 256 ^ j % 256))) (by kernel_rfl) rfl ⟨by rw [decide_eq_decide.2 (hs.2 hxy)], h15.old⟩
  · rintro _ w16 ⟨u7, rfl, h17, hp⟩
    refine wp_seq ?_
    refine wp_seq ?_
    -- region 2
    refine wl_region ?_
    refine wl_val (dnv 0) (by kernel_rfl) (by kernel_rfl) ?_
    refine wl_val (.bool false) (by kernel_rfl) (run_geq0 (k := .i64) (a := -1) (b := 0) (by kernel_rfl) (by kernel_rfl) false (by decide)) ?_
    refine wl_nil ?_
    refine then_at (F := ⟨(rarr a :: rarr b :: pt q1 :: pt q4 :: u7 4 :: dnv 0 :: dnv 0 :: .bool false :: u7 8 :: u7 9 :: u7 10 :: u7 11 :: u7 12 :: u7 13 :: u7 14 :: u7 15 :: u7 16 :: u7 17 :: u7 18 :: u7 19 :: u7 20 :: u7 21 :: u7 22 :: u7 23 :: List.replicate 0 un).toArray, []⟩) (by kernel_rfl) ?_
    refine wp_cond_false (by kernel_rfl) ?_
    refine wp_exit ?_
    repeat first | refine then_exit ?_ | refine block_exit ?_ | refine block_exit_ne (by decide) ?_
    refine then_at (F := ⟨(rarr a :: rarr b :: pt q1 :: pt q4 :: u7 4 :: dnv 0 :: dnv 0 :: .bool false :: u7 8 :: u7 9 :: u7 10 :: u7 11 :: u7 12 :: u7 13 :: u7 14 :: u7 15 :: u7 16 :: u7 17 :: u7 18 :: u7 19 :: u7 20 :: u7 21 :: u7 22 :: u7 23 :: List.replicate 0 un).toArray, []⟩) (by kernel_rfl) ?_
    refine wp_seq ?_
    -- region 6
    refine wl_region ?_
    refine wl_val (.bool false) (by kernel_rfl) (by kernel_rfl) ?_
    refine wl_nil ?_
    refine then_at (F := ⟨(rarr a :: rarr b :: pt q1 :: pt q4 :: .bool false :: dnv 0 :: dnv 0 :: .bool false :: u7 8 :: u7 9 :: u7 10 :: u7 11 :: u7 12 :: u7 13 :: u7 14 :: u7 15 :: u7 16 :: u7 17 :: u7 18 :: u7 19 :: u7 20 :: u7 21 :: u7 22 :: u7 23 :: List.replicate 0 un).toArray, []⟩) (by kernel_rfl) ?_
    refine wp_ret ?_
    repeat first | refine then_ret ?_ | refine block_ret ?_
    exact bodyPost_ret (v := .bool false) (by kernel_rfl) rfl ⟨by rw [decide_eq_false (rb_end hp)], h17.old⟩

set_option linter.unusedVariables false in
set_option maxRecDepth 100000 in
set_option maxHeartbeats 2000000 in
theorem rless_any (a b : Nat) (hba : b ≤ a) (w : World) :
    Calls Tryd.prog 40 #[rarr a, rarr b] w fun e w' => e = .returned (rarr (a - b)) ∧ Below w.heap.size w w' := by
  have H0 := HA.start w
  go_enter Tryd.func40, Tryd.ntmps40
  refine wp_seq ?_
  -- region 0
  refine wl_region ?_
  refine wl_make H0 37 (by kernel_rfl) (run_box37 (c := rl a) (by kernel_rfl)) ?_
  intro q1 w2 h3
  refine wl_make h3 37 (by kernel_rfl) (run_box37 (c := rl b) (by kernel_rfl)) ?_
  intro q4 w5 h6
  refine wl_make h6 37 (by kernel_rfl) run_alloc37 ?_
  intro q7 w8 h9
  refine wl_nil ?_
  refine then_at (F := ⟨(rarr a :: rarr b :: pt q1 :: pt q4 :: pt q7 :: List.replicate 24 un).toArray, []⟩) (by kernel_rfl) ?_
  refine wp_seq ?_
  -- region 1
  refine wl_region ?_
  refine wl_val (iN .i64 0) (by kernel_rfl) (by kernel_rfl) ?_
  refine wl_nil ?_
  refine then_at (F := ⟨(rarr a :: rarr b :: pt q1 :: pt q4 :: pt q7 :: iN .i64 0 :: List.replicate 23 un).toArray, []⟩) (by kernel_rfl) ?_
  refine wp_seq ?_
  refine wp_seq ?_
  -- region 2
  refine wl_region ?_
  refine wl_val (iN .i64 0) (by kernel_rfl) (by kernel_rfl) ?_
  refine wl_nil ?_
  refine then_at (F := ⟨(rarr a :: rarr b :: pt q1 :: pt q4 :: pt q7 :: iN .i64 0 :: iN .i64 0 :: List.replicate 22 un).toArray, []⟩) (by kernel_rfl) ?_
  refine wp_block ?_
  refine wp_count (fun k A w' => ∃ u10 : Nat → Value, A = ⟨(rarr a :: rarr b :: pt q1 :: pt q4 :: pt q7 :: iN .i64 (bo a b k) :: iN .i64 k :: u10 7 :: u10 8 :: u10 9 :: u10 10 :: u10 11 :: u10 12 :: u10 13 :: u10 14 :: u10 15 :: u10 16 :: u10 17 :: u10 18 :: u10 19 :: u10 20 :: u10 21 :: u10 22 :: u10 23 :: u10 24 :: u10 25 :: u10 26 :: u10 27 :: List.replicate 1 un).toArray, []⟩ ∧ HA w [(q7, 37, rl 0), (q4, 37, rl b), (q1, 37, mx (a - b) a k)] w') 36 ?_ ?_ ?_
  · exact ⟨fun ii => (([(7, undef), (8, undef), (9, undef), (10, undef), (11, undef), (12, undef), (13, undef), (14, undef), (15, undef), (16, undef), (17, undef), (18, undef), (19, undef), (20, undef), (21, undef), (22, undef), (23, undef), (24, undef), (25, undef), (26, undef), (27, undef)] : List (Nat × Value)).find? (·.1 == ii)).elim undef (·.2), by kernel_rfl, h9⟩
  · rintro k hk _ w11 ⟨u10, rfl, h12⟩
    have hd := Nat.mod_lt (a / 256 ^ k) (show 256 > 0 by decide)
    have he := Nat.mod_lt (b / 256 ^ k) (show 256 > 0 by decide)
    have hc := bo_le a b k
    refine wp_seq ?_
    refine wp_seq ?_
    -- region 3
    refine wl_region ?_
    refine wl_val (iN .i64 k) (by kernel_rfl) (by kernel_rfl) ?_
    refine wl_val (.bool true) (by kernel_rfl) (run_lss (k := .i64) (a := k) (b := 36) (by kernel_rfl) (by kernel_rfl) true (decide_eq_true hk)) ?_
    refine wl_nil ?_
    refine then_at (F := ⟨(rarr a :: rarr b :: pt q1 :: pt q4 :: pt q7 :: iN .i64 (bo a b k) :: iN .i64 k :: u10 7 :: iN .i64 k :: .bool true :: u10 10 :: u10 11 :: u10 12 :: u10 13 :: u10 14 :: u10 15 :: u10 16 :: u10 17 :: u10 18 :: u10 19 :: u10 20 :: u10 21 :: u10 22 :: u10 23 :: u10 24 :: u10 25 :: u10 26 :: u10 27 :: List.replicate 1 un).toArray, []⟩) (by kernel_rfl) ?_
    refine wp_cond_true (by kernel_rfl) ?_
    refine wp_skip ?_
    refine then_at (F := ⟨(rarr a :: rarr b :: pt q1 :: pt q4 :: pt q7 :: iN .i64 (bo a b k) :: iN .i64 k :: u10 7 :: iN .i64 k :: .bool true :: u10 10 :: u10 11 :: u10 12 :: u10 13 :: u10 14 :: u10 15 :: u10 16 :: u10 17 :: u10 18 :: u10 19 :: u10 20 :: u10 21 :: u10 22 :: u10 23 :: u10 24 :: u10 25 :: u10 26 :: u10 27 :: List.replicate 1 un).toArray, []⟩) (by kernel_rfl) ?_
    refine wp_seq ?_
    refine wp_block ?_
    refine wp_seq ?_
    -- region 5
    refine wp_region_sure ⟨(rarr a :: rarr b :: pt q1 :: pt q4 :: pt q7 :: iN .i64 (bo a b k) :: iN .i64 k :: .int .i64 ((((a / 256 ^ k % 256 : Nat) : Int) - ((b / 256 ^ k % 256 : Nat) : Int)) - ((bo a b k : Nat) : Int)) :: iN .i64 k :: .bool true :: u10 10 :: u10 11 :: iN .i64 k :: .pointer (some ⟨q1, k, none⟩) :: iN .i64 (a / 256 ^ k % 256) :: iN .i64 k :: .pointer (some ⟨q4, k, none⟩) :: iN .i64 (b / 256 ^ k % 256) :: .int .i64 (((a / 256 ^ k % 256 : Nat) : Int) - ((b / 256 ^ k % 256 : Nat) : Int)) :: iN .i64 (bo a b k) :: .int .i64 ((((a / 256 ^ k % 256 : Nat) : Int) - ((b / 256 ^ k % 256 : Nat) : Int)) - ((bo a b k : Nat) : Int)) :: u10 21 :: u10 22 :: u10 23 :: u10 24 :: u10 25 :: u10 26 :: u10 27 :: List.replicate 1 un).toArray, []⟩ (HA w [(q7, 37, rl 0), (q4, 37, rl b), (q1, 37, mx (a - b) a k)]) [iN .i64 k, .pointer (some ⟨q1, k, none⟩), iN .i64 (a / 256 ^ k % 256), iN .i64 k, .pointer (some ⟨q4, k, none⟩), iN .i64 (b / 256 ^ k % 256), .int .i64 (((a / 256 ^ k % 256 : Nat) : Int) - ((b / 256 ^ k % 256 : Nat) : Int)), iN .i64 (bo a b k), .int .i64 ((((a / 256 ^ k % 256 : Nat) : Int) - ((b / 256 ^ k % 256 : Nat) : Int)) - ((bo a b k : Nat) : Int)), .int .i64 ((((a / 256 ^ k % 256 : Nat) : Int) - ((b / 256 ^ k % 256 : Nat) : Int)) - ((bo a b k : Nat) : Int))] (by kernel_rfl) (by kernel_rfl) (by kernel_rfl) (by kernel_rfl) (fun _ _ _ h => h) h12.drew ?_ ?_
    · refine AllSure.cons (OpSure.take (v := iN .i64 k) (by kernel_rfl) (by kernel_rfl) (fun _ _ => (by kernel_rfl))) ?_
      refine AllSure.cons (OpSure.take (v := .pointer (some ⟨q1, k, none⟩)) (by kernel_rfl) (by kernel_rfl) (fun _ _ => (run_addr_arr (q := q1) (a := k) Tryd.underlying37 (fun w => Tryd.sizeOf3 w) (by kernel_rfl) (by kernel_rfl) (by omega)))) ?_
      refine AllSure.cons (OpSure.take (v := iN .i64 (a / 256 ^ k % 256)) (by kernel_rfl) (by kernel_rfl) (fun _ h => run_load1 (fun w => Tryd.isAgg3 w) (by kernel_rfl) (((h.get 2 rfl).cell k).trans (mx_get (a - b) a k hk)))) ?_
      refine AllSure.cons (OpSure.take (v := iN .i64 k) (by kernel_rfl) (by kernel_rfl) (fun _ _ => (by kernel_rfl))) ?_
      refine AllSure.cons (OpSure.take (v := .pointer (some ⟨q4, k, none⟩)) (by kernel_rfl) (by kernel_rfl) (fun _ _ => (run_addr_arr (q := q4) (a := k) Tryd.underlying37 (fun w => Tryd.sizeOf3 w) (by kernel_rfl) (by kernel_rfl) (by omega)))) ?_
      refine AllSure.cons (OpSure.take (v := iN .i64 (b / 256 ^ k % 256)) (by kernel_rfl) (by kernel_rfl) (fun _ h => run_load1 (fun w => Tryd.isAgg3 w) (by kernel_rfl) (((h.get 1 rfl).cell k).trans (rl_get b k (by omega))))) ?_
      refine AllSure.cons (OpSure.take (v := .int .i64 (((a / 256 ^ k % 256 : Nat) : Int) - ((b / 256 ^ k % 256 : Nat) : Int))) (by kernel_rfl) (by kernel_rfl) (fun _ _ => (run_subi (a := ((a / 256 ^ k % 256 : Nat) : Int)) (b := ((b / 256 ^ k % 256 : Nat) : Int)) (by kernel_rfl) (by kernel_rfl) (by omega) (by omega)))) ?_
      refine AllSure.cons (OpSure.take (v := iN .i64 (bo a b k)) (by kernel_rfl) (by kernel_rfl) (fun _ _ => (by kernel_rfl))) ?_
      refine AllSure.cons (OpSure.take (v := .int .i64 ((((a / 256 ^ k % 256 : Nat) : Int) - ((b / 256 ^ k % 256 : Nat) : Int)) - ((bo a b k : Nat) : Int))) (by kernel_rfl) (by kernel_rfl) (fun _ _ => (run_subi (a := (((a / 256 ^ k % 256 : Nat) : Int) - ((b / 256 ^ k % 256 : Nat) : Int))) (b := ((bo a b k : Nat) : Int)) (by kernel_rfl) (by kernel_rfl) (by omega) (by omega)))) ?_
      refine AllSure.cons (OpSure.take (v := .int .i64 ((((a / 256 ^ k % 256 : Nat) : Int) - ((b / 256 ^ k % 256 : Nat) : Int)) - ((bo a b k : Nat) : Int))) (by kernel_rfl) (by kernel_rfl) (fun _ _ => (by kernel_rfl))) ?_
      exact AllSure.nil
    intro w13 h14
    refine then_at (F := ⟨(rarr a :: rarr b :: pt q1 :: pt q4 :: pt q7 :: iN .i64 (bo a b k) :: iN .i64 k :: .int .i64 ((((a / 256 ^ k % 256 : Nat) : Int) - ((b / 256 ^ k % 256 : Nat) : Int)) - ((bo a b k : Nat) : Int)) :: iN .i64 k :: .bool true :: u10 10 :: u10 11 :: iN .i64 k :: .pointer (some ⟨q1, k, none⟩) :: iN .i64 (a / 256 ^ k % 256) :: iN .i64 k :: .pointer (some ⟨q4, k, none⟩) :: iN .i64 (b / 256 ^ k % 256) :: .int .i64 (((a / 256 ^ k % 256 : Nat) : Int) - ((b / 256 ^ k % 256 : Nat) : Int)) :: iN .i64 (bo a b k) :: .int .i64 ((((a / 256 ^ k % 256 : Nat) : Int) - ((b / 256 ^ k % 256 : Nat) : Int)) - ((bo a b k : Nat) : Int)) :: u10 21 :: u10 22 :: u10 23 :: u10 24 :: u10 25 :: u10 26 :: u10 27 :: List.replicate 1 un).toArray, []⟩) (by kernel_rfl) ?_
    refine wp_seq ?_
    -- region 6
    refine wl_region ?_
    refine wl_val (iN .i64 0) (by kernel_rfl) (by kernel_rfl) ?_
    refine wl_nil ?_
    refine then_at (F := ⟨(rarr a :: rarr b :: pt q1 :: pt q4 :: pt q7 :: iN .i64 0 :: iN .i64 k :: .int .i64 ((((a / 256 ^ k % 256 : Nat) : Int) - ((b / 256 ^ k % 256 : Nat) : Int)) - ((bo a b k : Nat) : Int)) :: iN .i64 k :: .bool true :: u10 10 :: u10 11 :: iN .i64 k :: .pointer (some ⟨q1, k, none⟩) :: iN .i64 (a / 256 ^ k % 256) :: iN .i64 k :: .pointer (some ⟨q4, k, none⟩) :: iN .i64 (b / 256 ^ k % 256) :: .int .i64 (((a / 256 ^ k % 256 : Nat) : Int) - ((b / 256 ^ k % 256 : Nat) : Int)) :: iN .i64 (bo a b k) :: .int .i64 ((((a / 256 ^ k % 256 : Nat) : Int) - ((b / 256 ^ k % 256 : Nat) : Int)) - ((bo a b k : Nat) : Int)) :: u10 21 :: u10 22 :: u10 23 :: u10 24 :: u10 25 :: u10 26 :: u10 27 :: List.replicate 1 un).toArray, []⟩) (by kernel_rfl) ?_
    refine wp_seq ?_
    refine wp_seq ?_
    by_cases hlt : a / 256 ^ k % 256 < b / 256 ^ k % 256 + bo a b k
    · have hb1 : bo a b (k + 1) = 1 := if_pos hlt
      -- region 7
      refine wl_region ?_
      refine wl_val (.int .i64 ((((a / 256 ^ k % 256 : Nat) : Int) - ((b / 256 ^ k % 256 : Nat) : Int)) - ((bo a b k : Nat) : Int))) (by kernel_rfl) (by kernel_rfl) ?_
      refine wl_val (.bool true) (by kernel_rfl) (run_lssi (k := .i64) (a := ((((a / 256 ^ k % 256 : Nat) : Int) - ((b / 256 ^ k % 256 : Nat) : Int)) - ((bo a b k : Nat) : Int))) (b := 0) (by kernel_rfl) (by kernel_rfl) true (decide_eq_true (by omega))) ?_
      refine wl_nil ?_
      refine then_at (F := ⟨(rarr a :: rarr b :: pt q1 :: pt q4 :: pt q7 :: iN .i64 0 :: iN .i64 k :: .int .i64 ((((a / 256 ^ k % 256 : Nat) : Int) - ((b / 256 ^ k % 256 : Nat) : Int)) - ((bo a b k : Nat) : Int)) :: iN .i64 k :: .bool true :: u10 10 :: u10 11 :: iN .i64 k :: .pointer (some ⟨q1, k, none⟩) :: iN .i64 (a / 256 ^ k % 256) :: iN .i64 k :: .pointer (some ⟨q4, k, none⟩) :: iN .i64 (b / 256 ^ k % 256) :: .int .i64 (((a / 256 ^ k % 256 : Nat) : Int) - ((b / 256 ^ k % 256 : Nat) : Int)) :: iN .i64 (bo a b k) :: .int .i64 ((((a / 256 ^ k % 256 : Nat) : Int) - ((b / 256 ^ k % 256 : Nat) : Int)) - ((bo a b k : Nat) : Int)) :: .int .i64 ((((a / 256 ^ k % 256 : Nat) : Int) - ((b / 256 ^ k % 256 : Nat) : Int)) - ((bo a b k : Nat) : Int)) :: .bool true :: u10 23 :: u10 24 :: u10 25 :: u10 26 :: u10 27 :: List.replicate 1 un).toArray, []⟩) (by kernel_rfl) ?_
      refine wp_cond_true (by kernel_rfl) ?_
      refine wp_seq ?_
      -- region 8
      refine wl_region ?_
      refine wl_val (.int .i64 ((((a / 256 ^ k % 256 : Nat) : Int) - ((b / 256 ^ k % 256 : Nat) : Int)) - ((bo a b k : Nat) : Int))) (by kernel_rfl) (by kernel_rfl) ?_
      refine wl_val (iN .i64 (a / 256 ^ k % 256 + 256 - b / 256 ^ k % 256 - bo a b k)) (by kernel_rfl) (run_addi (a := ((((a / 256 ^ k % 256 : Nat) : Int) - ((b / 256 ^ k % 256 : Nat) : Int)) - ((bo a b k : Nat) : Int))) (b := 256) (n := a / 256 ^ k % 256 + 256 - b / 256 ^ k % 256 - bo a b k) (by kernel_rfl) (by kernel_rfl) (by omega) (by omega)) ?_
      refine wl_val (iN .i64 (a / 256 ^ k % 256 + 256 - b / 256 ^ k % 256 - bo a b k)) (by kernel_rfl) (by kernel_rfl) ?_
      refine wl_nil ?_
      refine then_at (F := ⟨(rarr a :: rarr b :: pt q1 :: pt q4 :: pt q7 :: iN .i64 0 :: iN .i64 k :: iN .i64 (a / 256 ^ k % 256 + 256 - b / 256 ^ k % 256 - bo a b k) :: iN .i64 k :: .bool true :: u10 10 :: u10 11 :: iN .i64 k :: .pointer (some ⟨q1, k, none⟩) :: iN .i64 (a / 256 ^ k % 256) :: iN .i64 k :: .pointer (some ⟨q4, k, none⟩) :: iN .i64 (b / 256 ^ k % 256) :: .int .i64 (((a / 256 ^ k % 256 : Nat) : Int) - ((b / 256 ^ k % 256 : Nat) : Int)) :: iN .i64 (bo a b k) :: .int .i64 ((((a / 256 ^ k % 256 : Nat) : Int) - ((b / 256 ^ k % 256 : Nat) : Int)) - ((bo a b k : Nat) : Int)) :: .int .i64 ((((a / 256 ^ k % 256 : Nat) : Int) - ((b / 256 ^ k % 256 : Nat) : Int)) - ((bo a b k : Nat) : Int)) :: .bool true :: .int .i64 ((((a / 256 ^ k % 256 : Nat) : Int) - ((b / 256 ^ k % 256 : Nat) : Int)) - ((bo a b k : Nat) : Int)) :: iN .i64 (a / 256 ^ k % 256 + 256 - b / 256 ^ k % 256 - bo a b k) :: u10 25 :: u10 26 :: u10 27 :: List.replicate 1 un).toArray, []⟩) (by kernel_rfl) ?_
      -- region 9
      refine wl_region ?_
      refine wl_val (iN .i64 1) (by kernel_rfl) (by kernel_rfl) ?_
      refine wl_nil ?_
      refine then_at (F := ⟨(rarr a :: rarr b :: pt q1 :: pt q4 :: pt q7 :: iN .i64 1 :: iN .i64 k :: iN .i64 (a / 256 ^ k % 256 + 256 - b / 256 ^ k % 256 - bo a b k) :: iN .i64 k :: .bool true :: u10 10 :: u10 11 :: iN .i64 k :: .pointer (some ⟨q1, k, none⟩) :: iN .i64 (a / 256 ^ k % 256) :: iN .i64 k :: .pointer (some ⟨q4, k, none⟩) :: iN .i64 (b / 256 ^ k % 256) :: .int .i64 (((a / 256 ^ k % 256 : Nat) : Int) - ((b / 256 ^ k % 256 : Nat) : Int)) :: iN .i64 (bo a b k) :: .int .i64 ((((a / 256 ^ k % 256 : Nat) : Int) - ((b / 256 ^ k % 256 : Nat) : Int)) - ((bo a b k : Nat) : Int)) :: .int .i64 ((((a / 256 ^ k % 256 : Nat) : Int) - ((b / 256 ^ k % 256 : Nat) : Int)) - ((bo a b k : Nat) : Int)) :: .bool true :: .int .i64 ((((a / 256 ^ k % 256 : Nat) : Int) - ((b / 256 ^ k % 256 : Nat) : Int)) - ((bo a b k : Nat) : Int)) :: iN .i64 (a / 256 ^ k % 256 + 256 - b / 256 ^ k % 256 - bo a b k) :: u10 25 :: u10 26 :: u10 27 :: List.replicate 1 un).toArray, []⟩) (by kernel_rfl) ?_
      -- region 10
      refine wl_region ?_
      refine wl_val (iN .i64 k) (by kernel_rfl) (by kernel_rfl) ?_
      refine wl_val (iN .i64 (a / 256 ^ k % 256 + 256 - b / 256 ^ k % 256 - bo a b k)) (by kernel_rfl) (by kernel_rfl) ?_
      refine wl_val (.pointer (some ⟨q1, k, none⟩)) (by kernel_rfl) (run_addr_arr (q := q1) (a := k) Tryd.underlying37 (fun w => Tryd.sizeOf3 w) (by kernel_rfl) (by kernel_rfl) (by omega)) ?_
      refine wl_put (k := .i64) (z := ((a / 256 ^ k % 256 + 256 - b / 256 ^ k % 256 - bo a b k : Nat) : Int)) h14 2 rfl k (by rw [mx_size _ _ _ (by omega)]; exact hk) (by kernel_rfl) (fun w => Tryd.sizeOf3 w) (by kernel_rfl) (by kernel_rfl) ?_
      intro w15 h16
      have h17 : HA w [(q7, 37, rl 0), (q4, 37, rl b), (q1, 37, mx (a - b) a (k + 1))] w15 := (by rw [← mx_put (a - b) a k (a / 256 ^ k % 256 + 256 - b / 256 ^ k % 256 - bo a b k) hk (mod_less 256 a b k (a / 256 ^ k % 256 + 256 - b / 256 ^ k % 256 - bo a b k) rfl hba (by omega))]; exact h16)
      clear h16
      refine wl_nil ?_
      refine block_normal ?_
      refine then_at (F := ⟨(rarr a :: rarr b :: pt q1 :: pt q4 :: pt q7 :: iN .i64 1 :: iN .i64 k :: iN .i64 (a / 256 ^ k % 256 + 256 - b / 256 ^ k % 256 - bo a b k) :: iN .i64 k :: .bool true :: u10 10 :: u10 11 :: iN .i64 k :: .pointer (some ⟨q1, k, none⟩) :: iN .i64 (a / 256 ^ k % 256) :: iN .i64 k :: .pointer (some ⟨q4, k, none⟩) :: iN .i64 (b / 256 ^ k % 256) :: .int .i64 (((a / 256 ^ k % 256 : Nat) : Int) - ((b / 256 ^ k % 256 : Nat) : Int)) :: iN .i64 (bo a b k) :: .int .i64 ((((a / 256 ^ k % 256 : Nat) : Int) - ((b / 256 ^ k % 256 : Nat) : Int)) - ((bo a b k : Nat) : Int)) :: .int .i64 ((((a / 256 ^ k % 256 : Nat) : Int) - ((b / 256 ^ k % 256 : Nat) : Int)) - ((bo a b k : Nat) : Int)) :: .bool true :: .int .i64 ((((a / 256 ^ k % 256 : Nat) : Int) - ((b / 256 ^ k % 256 : Nat) : Int)) - ((bo a b k : Nat) : Int)) :: iN .i64 (a / 256 ^ k % 256 + 256 - b / 256 ^ k % 256 - bo a b k) :: iN .i64 k :: iN .i64 (a / 256 ^ k % 256 + 256 - b / 256 ^ k % 256 - bo a b k) :: .pointer (some ⟨q1, k, none⟩) :: List.replicate 1 un).toArray, []⟩) (by kernel_rfl) ?_
      -- region 4
      refine wl_region ?_
      refine wl_val (iN .i64 k) (by kernel_rfl) (by kernel_rfl) ?_
      refine wl_val (iN .i64 (k + 1)) (by kernel_rfl) (run_add (k := .i64) (a := k) (b := 1) (by kernel_rfl) (by kernel_rfl) (by simp only [top]; omega)) ?_
      refine wl_val (iN .i64 (k + 1)) (by kernel_rfl) (by kernel_rfl) ?_
      refine wl_nil ?_
      rw [hb1]
      exact then_I ⟨fun ii => (([(7, iN .i64 (a / 256 ^ k % 256 + 256 - b / 256 ^ k % 256 - bo a b k)), (8, iN .i64 k), (9, .bool true), (10, iN .i64 k), (11, iN .i64 (k + 1)), (12, iN .i64 k), (13, .pointer (some ⟨q1, k, none⟩)), (14, iN .i64 (a / 256 ^ k % 256)), (15, iN .i64 k), (16, .pointer (some ⟨q4, k, none⟩)), (17, iN .i64 (b / 256 ^ k % 256)), (18, .int .i64 (((a / 256 ^ k % 256 : Nat) : Int) - ((b / 256 ^ k % 256 : Nat) : Int))), (19, iN .i64 (bo a b k)), (20, .int .i64 ((((a / 256 ^ k % 256 : Nat) : Int) - ((b / 256 ^ k % 256 : Nat) : Int)) - ((bo a b k : Nat) : Int))), (21, .int .i64 ((((a / 256 ^ k % 256 : Nat) : Int) - ((b / 256 ^ k % 256 : Nat) : Int)) - ((bo a b k : Nat) : Int))), (22, .bool true), (23, .int .i64 ((((a / 256 ^ k % 256 : Nat) : Int) - ((b / 256 ^ k % 256 : Nat) : Int)) - ((bo a b k : Nat) : Int))), (24, iN .i64 (a / 256 ^ k % 256 + 256 - b / 256 ^ k % 256 - bo a b k)), (25, iN .i64 k), (26, iN .i64 (a / 256 ^ k % 256 + 256 - b / 256 ^ k % 256 - bo a b k)), (27, .pointer (some ⟨q1, k, none⟩))] : List (Nat × Value)).find? (·.1 == ii)).elim undef (·.2), by kernel_rfl, h17⟩
    · have ez : (((a / 256 ^ k % 256 : Nat) : Int) - ((b / 256 ^ k % 256 : Nat) : Int)) - ((bo a b k : Nat) : Int) = ((a / 256 ^ k % 256 - b / 256 ^ k % 256 - bo a b k : Nat) : Int) := by omega
      rw [ez]
      have hb1 : bo a b (k + 1) = 0 := if_neg hlt
      -- region 7
      refine wl_region ?_
      refine wl_val (iN .i64 (a / 256 ^ k % 256 - b / 256 ^ k % 256 - bo a b k)) (by kernel_rfl) (by kernel_rfl) ?_
      refine wl_val (.bool false) (by kernel_rfl) (run_lssi (k := .i64) (a := ((a / 256 ^ k % 256 - b / 256 ^ k % 256 - bo a b k : Nat) : Int)) (b := 0) (by kernel_rfl) (by kernel_rfl) false (decide_eq_false (by omega))) ?_
      refine wl_nil ?_
      refine then_at (F := ⟨(rarr a :: rarr b :: pt q1 :: pt q4 :: pt q7 :: iN .i64 0 :: iN .i64 k :: iN .i64 (a / 256 ^ k % 256 - b / 256 ^ k % 256 - bo a b k) :: iN .i64 k :: .bool true :: u10 10 :: u10 11 :: iN .i64 k :: .pointer (some ⟨q1, k, none⟩) :: iN .i64 (a / 256 ^ k % 256) :: iN .i64 k :: .pointer (some ⟨q4, k, none⟩) :: iN .i64 (b / 256 ^ k % 256) :: .int .i64 (((a / 256 ^ k % 256 : Nat) : Int) - ((b / 256 ^ k % 256 : Nat) : Int)) :: iN .i64 (bo a b k) :: iN .i64 (a / 256 ^ k % 256 - b / 256 ^ k % 256 - bo a b k) :: iN .i64 (a / 256 ^ k % 256 - b / 256 ^ k % 256 - bo a b k) :: .bool false :: u10 23 :: u10 24 :: u10 25 :: u10 26 :: u10 27 :: List.replicate 1 un).toArray, []⟩) (by kernel_rfl) ?_
      refine wp_cond_false (by kernel_rfl) ?_
      refine wp_skip ?_
      refine then_at (F := ⟨(rarr a :: rarr b :: pt q1 :: pt q4 :: pt q7 :: iN .i64 0 :: iN .i64 k :: iN .i64 (a / 256 ^ k % 256 - b / 256 ^ k % 256 - bo a b k) :: iN .i64 k :: .bool true :: u10 10 :: u10 11 :: iN .i64 k :: .pointer (some ⟨q1, k, none⟩) :: iN .i64 (a / 256 ^ k % 256) :: iN .i64 k :: .pointer (some ⟨q4, k, none⟩) :: iN .i64 (b / 256 ^ k % 256) :: .int .i64 (((a / 256 ^ k % 256 : Nat) : Int) - ((b / 256 ^ k % 256 : Nat) : Int)) :: iN .i64 (bo a b k) :: iN .i64 (a / 256 ^ k % 256 - b / 256 ^ k % 256 - bo a b k) :: iN .i64 (a / 256 ^ k % 256 - b / 256 ^ k % 256 - bo a b k) :: .bool false :: u10 23 :: u10 24 :: u10 25 :: u10 26 :: u10 27 :: List.replicate 1 un).toArray, []⟩) (by kernel_rfl) ?_
      -- region 10
      refine wl_region ?_
      refine wl_val (iN .i64 k) (by kernel_rfl) (by kernel_rfl) ?_
      refine wl_val (iN .i64 (a / 256 ^ k % 256 - b / 256 ^ k % 256 - bo a b k)) (by kernel_rfl) (by kernel_rfl) ?_
      refine wl_val (.pointer (some ⟨q1, k, none⟩)) (by kernel_rfl) (run_addr_arr (q := q1) (a := k) Tryd.underlying37 (fun w => Tryd.sizeOf3 w) (by kernel_rfl) (by kernel_rfl) (by omega)) ?_
      refine wl_put (k := .i64) (z := ((a / 256 ^ k % 256 - b / 256 ^ k % 256 - bo a b k : Nat) : Int)) h14 2 rfl k (by rw [mx_size _ _ _ (by omega)]; exact hk) (by kernel_rfl) (fun w => Tryd.sizeOf3 w) (by kernel_rfl) (by kernel_rfl) ?_
      intro w18 h19
      have h20 : HA w [(q7, 37, rl 0), (q4, 37, rl b), (q1, 37, mx (a - b) a (k + 1))] w18 := (by rw [← mx_put (a - b) a k (a / 256 ^ k % 256 - b / 256 ^ k % 256 - bo a b k) hk (mod_less 256 a b k (a / 256 ^ k % 256 - b / 256 ^ k % 256 - bo a b k) rfl hba (by omega))]; exact h19)
      clear h19
      refine wl_nil ?_
      refine block_normal ?_
      refine then_at (F := ⟨(rarr a :: rarr b :: pt q1 :: pt q4 :: pt q7 :: iN .i64 0 :: iN .i64 k :: iN .i64 (a / 256 ^ k % 256 - b / 256 ^ k % 256 - bo a b k) :: iN .i64 k :: .bool true :: u10 10 :: u10 11 :: iN .i64 k :: .pointer (some ⟨q1, k, none⟩) :: iN .i64 (a / 256 ^ k % 256) :: iN .i64 k :: .pointer (some ⟨q4, k, none⟩) :: iN .i64 (b / 256 ^ k % 256) :: .int .i64 (((a / 256 ^ k % 256 : Nat) : Int) - ((b / 256 ^ k % 256 : Nat) : Int)) :: iN .i64 (bo a b k) :: iN .i64 (a / 256 ^ k % 256 - b / 256 ^ k % 256 - bo a b k) :: iN .i64 (a / 256 ^ k % 256 - b / 256 ^ k % 256 - bo a b k) :: .bool false :: u10 23 :: u10 24 :: iN .i64 k :: iN .i64 (a / 256 ^ k % 256 - b / 256 ^ k % 256 - bo a b k) :: .pointer (some ⟨q1, k, none⟩) :: List.replicate 1 un).toArray, []⟩) (by kernel_rfl) ?_
      -- region 4
      refine wl_region ?_
      refine wl_val (iN .i64 k) (by kernel_rfl) (by kernel_rfl) ?_
      refine wl_val (iN .i64 (k + 1)) (by kernel_rfl) (run_add (k := .i64) (a := k) (b := 1) (by kernel_rfl) (by kernel_rfl) (by simp only [top]; omega)) ?_
      refine wl_val (iN .i64 (k + 1)) (by kernel_rfl) (by kernel_rfl) ?_
      refine wl_nil ?_
      rw [hb1]
      exact then_I ⟨fun ii => (([(7, iN .i64 (a / 256 ^ k % 256 - b / 256 ^ k % 256 - bo a b k)), (8, iN .i64 k), (9, .bool true), (10, iN .i64 k), (11, iN .i64 (k + 1)), (12, iN .i64 k), (13, .pointer (some ⟨q1, k, none⟩)), (14, iN .i64 (a / 256 ^ k % 256)), (15, iN .i64 k), (16, .pointer (some ⟨q4, k, none⟩)), (17, iN .i64 (b / 256 ^ k % 256)), (18, .int .i64 (((a / 256 ^ k % 256 : Nat) : Int) - ((b / 256 ^ k % 256 : Nat) : Int))), (19, iN .i64 (bo a b k)), (20, iN .i64 (a / 256 ^ k % 256 - b / 256 ^ k % 256 - bo a b k)), (21, iN .i64 (a / 256 ^ k % 256 - b / 256 ^ k % 256 - bo a b k)), (22, .bool false), (23, u10 23), (24, u10 24), (25, iN .i64 k), (26, iN .i64 (a / 256 ^ k % 256 - b / 256 ^ k % 256 - bo a b k)), (27, .pointer (some ⟨q1, k, none⟩))] : List (Nat × Value)).find? (·.1 == ii)).elim undef (·.2), by kernel_rfl, h20⟩
  · rintro _ w21 ⟨u10, rfl, h22⟩
    refine wp_seq ?_
    refine wp_seq ?_
    -- region 3
    refine wl_region ?_
    refine wl_val (iN .i64 36) (by kernel_rfl) (by kernel_rfl) ?_
    refine wl_val (.bool false) (by kernel_rfl) (run_lss (k := .i64) (a := 36) (b := 36) (by kernel_rfl) (by kernel_rfl) false (by decide)) ?_
    refine wl_nil ?_
    refine then_at (F := ⟨(rarr a :: rarr b :: pt q1 :: pt q4 :: pt q7 :: iN .i64 (bo a b 36) :: iN .i64 36 :: u10 7 :: iN .i64 36 :: .bool false :: u10 10 :: u10 11 :: u10 12 :: u10 13 :: u10 14 :: u10 15 :: u10 16 :: u10 17 :: u10 18 :: u10 19 :: u10 20 :: u10 21 :: u10 22 :: u10 23 :: u10 24 :: u10 25 :: u10 26 :: u10 27 :: List.replicate 1 un).toArray, []⟩) (by kernel_rfl) ?_
    refine wp_cond_false (by kernel_rfl) ?_
    refine wp_exit ?_
    repeat first | refine then_exit ?_ | refine block_exit ?_ | refine block_exit_ne (by decide) ?_
    have h23 : HA w [(q7, 37, rl 0), (q4, 37, rl b), (q1, 37, rl (a - b))] w21 := by rw [← mx_end (a - b) (a)]; exact h22
    refine then_at (F := ⟨(rarr a :: rarr b :: pt q1 :: pt q4 :: pt q7 :: iN .i64 (bo a b 36) :: iN .i64 36 :: u10 7 :: iN .i64 36 :: .bool false :: u10 10 :: u10 11 :: u10 12 :: u10 13 :: u10 14 :: u10 15 :: u10 16 :: u10 17 :: u10 18 :: u10 19 :: u10 20 :: u10 21 :: u10 22 :: u10 23 :: u10 24 :: u10 25 :: u10 26 :: u10 27 :: List.replicate 1 un).toArray, []⟩) (by kernel_rfl) ?_
    refine wp_seq ?_
    -- region 11
    refine wl_region ?_
    refine wl_load h23 2 rfl (by kernel_rfl) (by kernel_rfl) Tryd.underlying37 rfl (info_rl _) ?_
    refine wl_fill (c' := rl (a - b)) h23 0 rfl (by kernel_rfl) (by kernel_rfl) (by kernel_rfl) (rl_sz _ _) (info_rl _) (one_rl _) ?_
    intro w24 (h25 : HA w [(q7, 37, rl (a - b)), (q4, 37, rl b), (q1, 37, rl (a - b))] w24)
    refine wl_nil ?_
    refine then_at (F := ⟨(rarr a :: rarr b :: pt q1 :: pt q4 :: pt q7 :: iN .i64 (bo a b 36) :: iN .i64 36 :: u10 7 :: iN .i64 36 :: .bool false :: u10 10 :: u10 11 :: u10 12 :: u10 13 :: u10 14 :: u10 15 :: u10 16 :: u10 17 :: u10 18 :: u10 19 :: u10 20 :: u10 21 :: u10 22 :: u10 23 :: u10 24 :: u10 25 :: u10 26 :: u10 27 :: rarr (a - b) :: List.replicate 0 un).toArray, []⟩) (by kernel_rfl) ?_
    refine wp_ret ?_
    repeat first | refine then_ret ?_ | refine block_ret ?_
    exact bodyPost_ret (v := rarr (a - b)) (res_cell (p := 4) (by kernel_rfl) (by kernel_rfl) (h25.get 0 rfl) Tryd.underlying37 rfl (info_rl _)) rfl ⟨rfl, h25.old⟩
end Go.Proofs.YtdblnbcclfenkaaDoor
