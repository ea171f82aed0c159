/-
  product: the two halves of a product.
-/
import Derived.Test.YtdblnbcclfenkaaDoorGen2
import Derived.Test.YtdblnbcclfenkaaDoorSum
namespace Go.Proofs.YtdblnbcclfenkaaDoor
open Go.RowKit Num

theorem step_below (a b c d : Nat) (ha : a < 18446744073709551616) (hb : b < 18446744073709551616) (hc : c < 18446744073709551616) (hd : d < 18446744073709551616) (w : World) :
    Calls Tryd.prog 41 #[iN .u64 a, iN .u64 b, iN .u64 c, iN .u64 d] w fun e w' => e = .returned (.tuple #[iN .u64 ((a * b + c + d) / 18446744073709551616), iN .u64 ((a * b + c + d) % 18446744073709551616)]) ∧ Below w.heap.size w w' :=
  (step_any a b c d ha hb hc hd w).mono fun e w' h => ⟨h.1, by rw [h.2]; exact Below.refl _ w⟩
theorem low_row (a b k : Nat) (hb : b < K ^ 4) : a % K ^ k * b < K ^ (k + 4) := by
  rw [Nat.pow_add]
  exact Nat.mul_lt_mul'' (Nat.mod_lt _ (Nat.pow_pos (by decide))) hb
theorem mul_start (a b k : Nat) : a % K ^ k * b + 0 * K ^ (k + 0) = a % K ^ k * b + (a / K ^ k % K) * (b % K ^ 0) * K ^ k := by
  rw [Nat.zero_mul, Nat.pow_zero, Nat.mod_one, Nat.mul_zero, Nat.zero_mul]
theorem high_words (n : Nat) : ∀ k, k < 4 → (el8 n)[4 + k]? = (el (n / K ^ 4))[k]? := fun k hk => by
  rw [el8_get n (4 + k) (by omega), el_get _ k hk, Nat.pow_add, Nat.div_div_eq_div_mul]
theorem low_words (n : Nat) : ∀ k, k < 4 → (el8 n)[0 + k]? = (el n)[k]? := fun k hk => by
  rw [Nat.zero_add, el8_get n k (by omega), el_get _ k hk]

set_option linter.unusedVariables false in
set_option maxRecDepth 100000 in
set_option maxHeartbeats 2000000 in
theorem product_any (a b : Nat) (ha : a < K ^ 4) (hb : b < K ^ 4) (w : World) :
    Calls Tryd.prog 31 #[arr a, arr b] w fun e w' => e = .returned (.tuple #[arr (a * b / K ^ 4), arr (a * b)]) ∧ Below w.heap.size w w' := by
  have H0 := HA.start w
  go_enter Tryd.func31, Tryd.ntmps31
  refine wp_seq ?_
  -- region 0
  refine wl_region ?_
  refine wl_make H0 34 (by kernel_rfl) (run_box34 (c := el a) (by kernel_rfl)) ?_
  intro q1 w2 h3
  refine wl_make h3 34 (by kernel_rfl) (run_box34 (c := el b) (by kernel_rfl)) ?_
  intro q4 w5 h6
  refine wl_make h6 34 (by kernel_rfl) run_alloc34 ?_
  intro q7 w8 h9
  refine wl_make h9 34 (by kernel_rfl) run_alloc34 ?_
  intro q10 w11 h12
  refine wl_nil ?_
  refine then_at (F := ⟨(arr a :: arr b :: pt q1 :: pt q4 :: pt q7 :: pt q10 :: List.replicate 46 un).toArray, []⟩) (by kernel_rfl) ?_
  refine wp_seq ?_
  -- region 1
  refine wl_region ?_
  refine wl_make h12 61 (by kernel_rfl) run_alloc61 ?_
  intro q13 w14 h15
  refine wl_nil ?_
  refine then_at (F := ⟨(arr a :: arr b :: pt q1 :: pt q4 :: pt q7 :: pt q10 :: pt q13 :: List.replicate 45 un).toArray, []⟩) (by kernel_rfl) ?_
  refine wp_seq ?_
  refine wp_seq ?_
  -- region 2
  refine wl_region ?_
  refine wl_val (iN .i64 0) (by kernel_rfl) (by kernel_rfl) ?_
  refine wl_nil ?_
  refine then_at (F := ⟨(arr a :: arr b :: pt q1 :: pt q4 :: pt q7 :: pt q10 :: pt q13 :: un :: un :: un :: un :: un :: iN .i64 0 :: List.replicate 39 un).toArray, []⟩) (by kernel_rfl) ?_
  refine wp_block ?_
  refine wp_count (fun k A w' => ∃ u16 : Nat → Value, A = ⟨(arr a :: arr b :: pt q1 :: pt q4 :: pt q7 :: pt q10 :: pt q13 :: u16 7 :: u16 8 :: u16 9 :: un :: un :: iN .i64 k :: u16 13 :: u16 14 :: u16 15 :: u16 16 :: u16 17 :: u16 18 :: u16 19 :: u16 20 :: u16 21 :: u16 22 :: u16 23 :: u16 24 :: u16 25 :: u16 26 :: u16 27 :: u16 28 :: u16 29 :: u16 30 :: u16 31 :: u16 32 :: u16 33 :: u16 34 :: u16 35 :: u16 36 :: u16 37 :: u16 38 :: u16 39 :: u16 40 :: u16 41 :: u16 42 :: u16 43 :: List.replicate 8 un).toArray, []⟩ ∧ HA w [(q13, 61, el8 (a % K ^ k * b)), (q10, 34, el 0), (q7, 34, el 0), (q4, 34, el b), (q1, 34, el a)] w') 4 ?_ ?_ ?_
  · exact ⟨fun ii => (([(7, undef), (8, undef), (9, undef), (13, undef), (14, undef), (15, undef), (16, undef), (17, undef), (18, undef), (19, undef), (20, undef), (21, undef), (22, undef), (23, undef), (24, undef), (25, undef), (26, undef), (27, undef), (28, undef), (29, undef), (30, undef), (31, undef), (32, undef), (33, undef), (34, undef), (35, undef), (36, undef), (37, undef), (38, undef), (39, undef), (40, undef), (41, undef), (42, undef), (43, undef)] : List (Nat × Value)).find? (·.1 == ii)).elim undef (·.2), by kernel_rfl, (by rw [Nat.pow_zero, Nat.mod_one, Nat.zero_mul]; exact h15)⟩
  · rintro k hk _ w17 ⟨u16, rfl, h18⟩
    have hlow0 := low_row a b k hb
    refine wp_seq ?_
    -- region 3
    refine wl_region ?_
    refine wl_val (.bool true) (by kernel_rfl) (run_lss (k := .i64) (a := k) (b := 4) (by kernel_rfl) (by kernel_rfl) true (decide_eq_true hk)) ?_
    refine wl_nil ?_
    refine then_at (F := ⟨(arr a :: arr b :: pt q1 :: pt q4 :: pt q7 :: pt q10 :: pt q13 :: u16 7 :: u16 8 :: u16 9 :: un :: un :: iN .i64 k :: .bool true :: u16 14 :: u16 15 :: u16 16 :: u16 17 :: u16 18 :: u16 19 :: u16 20 :: u16 21 :: u16 22 :: u16 23 :: u16 24 :: u16 25 :: u16 26 :: u16 27 :: u16 28 :: u16 29 :: u16 30 :: u16 31 :: u16 32 :: u16 33 :: u16 34 :: u16 35 :: u16 36 :: u16 37 :: u16 38 :: u16 39 :: u16 40 :: u16 41 :: u16 42 :: u16 43 :: List.replicate 8 un).toArray, []⟩) (by kernel_rfl) ?_
    refine wp_seq ?_
    refine wp_cond_true (by kernel_rfl) ?_
    refine wp_skip ?_
    refine then_at (F := ⟨(arr a :: arr b :: pt q1 :: pt q4 :: pt q7 :: pt q10 :: pt q13 :: u16 7 :: u16 8 :: u16 9 :: un :: un :: iN .i64 k :: .bool true :: u16 14 :: u16 15 :: u16 16 :: u16 17 :: u16 18 :: u16 19 :: u16 20 :: u16 21 :: u16 22 :: u16 23 :: u16 24 :: u16 25 :: u16 26 :: u16 27 :: u16 28 :: u16 29 :: u16 30 :: u16 31 :: u16 32 :: u16 33 :: u16 34 :: u16 35 :: u16 36 :: u16 37 :: u16 38 :: u16 39 :: u16 40 :: u16 41 :: u16 42 :: u16 43 :: List.replicate 8 un).toArray, []⟩) (by kernel_rfl) ?_
    refine wp_seq ?_
    refine wp_block ?_
    refine wp_seq ?_
    -- region 4
    refine wl_region ?_
    refine wl_val (iN .i64 k) (by kernel_rfl) (by kernel_rfl) ?_
    refine wl_val (iN .i64 k) (by kernel_rfl) (by kernel_rfl) ?_
    refine wl_nil ?_
    refine then_at (F := ⟨(arr a :: arr b :: pt q1 :: pt q4 :: pt q7 :: pt q10 :: pt q13 :: iN .i64 k :: u16 8 :: u16 9 :: un :: un :: iN .i64 k :: .bool true :: iN .i64 k :: u16 15 :: u16 16 :: u16 17 :: u16 18 :: u16 19 :: u16 20 :: u16 21 :: u16 22 :: u16 23 :: u16 24 :: u16 25 :: u16 26 :: u16 27 :: u16 28 :: u16 29 :: u16 30 :: u16 31 :: u16 32 :: u16 33 :: u16 34 :: u16 35 :: u16 36 :: u16 37 :: u16 38 :: u16 39 :: u16 40 :: u16 41 :: u16 42 :: u16 43 :: List.replicate 8 un).toArray, []⟩) (by kernel_rfl) ?_
    refine wp_seq ?_
    -- region 5
    refine wl_region ?_
    refine wl_val (iN .u64 0) (by kernel_rfl) (by kernel_rfl) ?_
    refine wl_nil ?_
    refine then_at (F := ⟨(arr a :: arr b :: pt q1 :: pt q4 :: pt q7 :: pt q10 :: pt q13 :: iN .i64 k :: iN .u64 0 :: u16 9 :: un :: un :: iN .i64 k :: .bool true :: iN .i64 k :: u16 15 :: u16 16 :: u16 17 :: u16 18 :: u16 19 :: u16 20 :: u16 21 :: u16 22 :: u16 23 :: u16 24 :: u16 25 :: u16 26 :: u16 27 :: u16 28 :: u16 29 :: u16 30 :: u16 31 :: u16 32 :: u16 33 :: u16 34 :: u16 35 :: u16 36 :: u16 37 :: u16 38 :: u16 39 :: u16 40 :: u16 41 :: u16 42 :: u16 43 :: List.replicate 8 un).toArray, []⟩) (by kernel_rfl) ?_
    refine wp_seq ?_
    refine wp_seq ?_
    -- region 6
    refine wl_region ?_
    refine wl_val (iN .i64 0) (by kernel_rfl) (by kernel_rfl) ?_
    refine wl_nil ?_
    refine then_at (F := ⟨(arr a :: arr b :: pt q1 :: pt q4 :: pt q7 :: pt q10 :: pt q13 :: iN .i64 k :: iN .u64 0 :: u16 9 :: un :: un :: iN .i64 k :: .bool true :: iN .i64 k :: iN .i64 0 :: u16 16 :: u16 17 :: u16 18 :: u16 19 :: u16 20 :: u16 21 :: u16 22 :: u16 23 :: u16 24 :: u16 25 :: u16 26 :: u16 27 :: u16 28 :: u16 29 :: u16 30 :: u16 31 :: u16 32 :: u16 33 :: u16 34 :: u16 35 :: u16 36 :: u16 37 :: u16 38 :: u16 39 :: u16 40 :: u16 41 :: u16 42 :: u16 43 :: List.replicate 8 un).toArray, []⟩) (by kernel_rfl) ?_
    refine wp_block ?_
    refine wp_while (fun mq A w' => ∃ (m c M : Nat) (u19 : Nat → Value), mq = 4 - m ∧ A = ⟨(arr a :: arr b :: pt q1 :: pt q4 :: pt q7 :: pt q10 :: pt q13 :: iN .i64 k :: iN .u64 c :: u19 9 :: un :: un :: iN .i64 k :: .bool true :: iN .i64 k :: iN .i64 m :: u19 16 :: u19 17 :: u19 18 :: u19 19 :: u19 20 :: u19 21 :: u19 22 :: u19 23 :: u19 24 :: u19 25 :: u19 26 :: u19 27 :: u19 28 :: u19 29 :: u19 30 :: u19 31 :: u19 32 :: u19 33 :: u19 34 :: u19 35 :: u19 36 :: u19 37 :: u19 38 :: u16 39 :: u16 40 :: u16 41 :: u16 42 :: u16 43 :: List.replicate 8 un).toArray, []⟩ ∧ HA w [(q13, 61, el8 M), (q10, 34, el 0), (q7, 34, el 0), (q4, 34, el b), (q1, 34, el a)] w' ∧ m ≤ 4 ∧ c < K ∧ M + c * K ^ (k + m) = a % K ^ k * b + (a / K ^ k % K) * (b % K ^ m) * K ^ k ∧ M < K ^ (k + 4)) 4 ?_ ?_
    · exact ⟨0, 0, a % K ^ k * b, fun ii => (([(9, u16 9), (16, u16 16), (17, u16 17), (18, u16 18), (19, u16 19), (20, u16 20), (21, u16 21), (22, u16 22), (23, u16 23), (24, u16 24), (25, u16 25), (26, u16 26), (27, u16 27), (28, u16 28), (29, u16 29), (30, u16 30), (31, u16 31), (32, u16 32), (33, u16 33), (34, u16 34), (35, u16 35), (36, u16 36), (37, u16 37), (38, u16 38)] : List (Nat × Value)).find? (·.1 == ii)).elim undef (·.2), rfl, by kernel_rfl, h18, by omega, by decide, mul_start a b k, hlow0⟩
    rintro _ _ w20 ⟨m, c, M, u19, rfl, rfl, h21, hm4, hc, hM, hlow⟩
    refine wp_seq ?_
    by_cases hlm : m < 4
    · obtain ⟨M', e1, e2, e3, e4⟩ := mul_step K M c (a % K ^ k * b) (a / K ^ k % K) b m k (by decide) hM hlow hlm hk (Nat.mod_lt _ (by decide)) hc
      -- region 7
      refine wl_region ?_
      refine wl_val (.bool true) (by kernel_rfl) (run_lss (k := .i64) (a := m) (b := 4) (by kernel_rfl) (by kernel_rfl) true (decide_eq_true hlm)) ?_
      refine wl_nil ?_
      refine then_at (F := ⟨(arr a :: arr b :: pt q1 :: pt q4 :: pt q7 :: pt q10 :: pt q13 :: iN .i64 k :: iN .u64 c :: u19 9 :: un :: un :: iN .i64 k :: .bool true :: iN .i64 k :: iN .i64 m :: .bool true :: u19 17 :: u19 18 :: u19 19 :: u19 20 :: u19 21 :: u19 22 :: u19 23 :: u19 24 :: u19 25 :: u19 26 :: u19 27 :: u19 28 :: u19 29 :: u19 30 :: u19 31 :: u19 32 :: u19 33 :: u19 34 :: u19 35 :: u19 36 :: u19 37 :: u19 38 :: u16 39 :: u16 40 :: u16 41 :: u16 42 :: u16 43 :: List.replicate 8 un).toArray, []⟩) (by kernel_rfl) ?_
      refine wp_seq ?_
      refine wp_cond_true (by kernel_rfl) ?_
      refine wp_skip ?_
      refine then_at (F := ⟨(arr a :: arr b :: pt q1 :: pt q4 :: pt q7 :: pt q10 :: pt q13 :: iN .i64 k :: iN .u64 c :: u19 9 :: un :: un :: iN .i64 k :: .bool true :: iN .i64 k :: iN .i64 m :: .bool true :: u19 17 :: u19 18 :: u19 19 :: u19 20 :: u19 21 :: u19 22 :: u19 23 :: u19 24 :: u19 25 :: u19 26 :: u19 27 :: u19 28 :: u19 29 :: u19 30 :: u19 31 :: u19 32 :: u19 33 :: u19 34 :: u19 35 :: u19 36 :: u19 37 :: u19 38 :: u16 39 :: u16 40 :: u16 41 :: u16 42 :: u16 43 :: List.replicate 8 un).toArray, []⟩) (by kernel_rfl) ?_
      refine wp_seq ?_
      refine wp_block ?_
      refine wp_seq ?_
      -- region 8
      refine wl_region ?_
      refine wl_val (iN .i64 m) (by kernel_rfl) (by kernel_rfl) ?_
      refine wl_val (iN .i64 m) (by kernel_rfl) (by kernel_rfl) ?_
      refine wl_nil ?_
      refine then_at (F := ⟨(arr a :: arr b :: pt q1 :: pt q4 :: pt q7 :: pt q10 :: pt q13 :: iN .i64 k :: iN .u64 c :: iN .i64 m :: un :: un :: iN .i64 k :: .bool true :: iN .i64 k :: iN .i64 m :: .bool true :: iN .i64 m :: u19 18 :: u19 19 :: u19 20 :: u19 21 :: u19 22 :: u19 23 :: u19 24 :: u19 25 :: u19 26 :: u19 27 :: u19 28 :: u19 29 :: u19 30 :: u19 31 :: u19 32 :: u19 33 :: u19 34 :: u19 35 :: u19 36 :: u19 37 :: u19 38 :: u16 39 :: u16 40 :: u16 41 :: u16 42 :: u16 43 :: List.replicate 8 un).toArray, []⟩) (by kernel_rfl) ?_
      -- region 9
      refine wp_region_old [14] (fun _ : Nat → Nat => (⟨(arr a :: arr b :: pt q1 :: pt q4 :: pt q7 :: pt q10 :: pt q13 :: iN .i64 k :: iN .u64 ((a / K ^ k % K * (b / K ^ m % K) + M / K ^ (k + m) % K + c) / 18446744073709551616) :: iN .i64 m :: un :: un :: iN .i64 k :: .bool true :: iN .i64 k :: iN .i64 m :: .bool true :: iN .i64 m :: .tuple #[iN .u64 ((a / K ^ k % K * (b / K ^ m % K) + M / K ^ (k + m) % K + c) / 18446744073709551616), iN .u64 ((a / K ^ k % K * (b / K ^ m % K) + M / K ^ (k + m) % K + c) % 18446744073709551616)] :: iN .i64 k :: iN .i64 m :: iN .i64 (k + m) :: iN .i64 k :: .pointer (some ⟨q1, k, none⟩) :: iN .u64 (a / K ^ k % K) :: iN .i64 m :: .pointer (some ⟨q4, m, none⟩) :: iN .u64 (b / K ^ m % K) :: iN .i64 k :: iN .i64 m :: iN .i64 (k + m) :: .pointer (some ⟨q13, k + m, none⟩) :: iN .u64 (M / K ^ (k + m) % K) :: iN .u64 c :: .tuple #[iN .u64 ((a / K ^ k % K * (b / K ^ m % K) + M / K ^ (k + m) % K + c) / 18446744073709551616), iN .u64 ((a / K ^ k % K * (b / K ^ m % K) + M / K ^ (k + m) % K + c) % 18446744073709551616)] :: iN .u64 ((a / K ^ k % K * (b / K ^ m % K) + M / K ^ (k + m) % K + c) / 18446744073709551616) :: iN .u64 ((a / K ^ k % K * (b / K ^ m % K) + M / K ^ (k + m) % K + c) % 18446744073709551616) :: .pointer (some ⟨q13, k + m, none⟩) :: u19 38 :: u16 39 :: u16 40 :: u16 41 :: u16 42 :: u16 43 :: List.replicate 8 un).toArray, []⟩ : Act)) (GF w [(q13, 61, el8 M), (q10, 34, el 0), (q7, 34, el 0), (q4, 34, el b), (q1, 34, el a)] 21 13 0 q13 61 (el8 M')) [iN .i64 k, iN .i64 m, iN .i64 (k + m), iN .i64 k, .pointer (some ⟨q1, k, none⟩), iN .u64 (a / K ^ k % K), iN .i64 m, .pointer (some ⟨q4, m, none⟩), iN .u64 (b / K ^ m % K), iN .i64 k, iN .i64 m, iN .i64 (k + m), .pointer (some ⟨q13, k + m, none⟩), iN .u64 (M / K ^ (k + m) % K), iN .u64 c, .tuple #[iN .u64 ((a / K ^ k % K * (b / K ^ m % K) + M / K ^ (k + m) % K + c) / 18446744073709551616), iN .u64 ((a / K ^ k % K * (b / K ^ m % K) + M / K ^ (k + m) % K + c) % 18446744073709551616)], .tuple #[iN .u64 ((a / K ^ k % K * (b / K ^ m % K) + M / K ^ (k + m) % K + c) / 18446744073709551616), iN .u64 ((a / K ^ k % K * (b / K ^ m % K) + M / K ^ (k + m) % K + c) % 18446744073709551616)], iN .u64 ((a / K ^ k % K * (b / K ^ m % K) + M / K ^ (k + m) % K + c) / 18446744073709551616), iN .u64 ((a / K ^ k % K * (b / K ^ m % K) + M / K ^ (k + m) % K + c) % 18446744073709551616), iN .u64 ((a / K ^ k % K * (b / K ^ m % K) + M / K ^ (k + m) % K + c) / 18446744073709551616), .pointer (some ⟨q13, k + m, none⟩), undef] (by kernel_rfl) (by kernel_rfl) (by kernel_rfl) (by kernel_rfl) (fun _ _ _ _ h => h) (fun d hd => GF.start h21.drew (hd 21 (by decide))) ?_ ?_
      · refine AllGhost2.cons (by kernel_rfl) (gf_plain (v := iN .i64 k) (by decide) (fun _ => by kernel_rfl) (fun _ => by kernel_rfl) (fun _ _ => (by kernel_rfl))) ?_
        refine AllGhost2.cons (by kernel_rfl) (gf_plain (v := iN .i64 m) (by decide) (fun _ => by kernel_rfl) (fun _ => by kernel_rfl) (fun _ _ => (by kernel_rfl))) ?_
        refine AllGhost2.cons (by kernel_rfl) (gf_plain (v := iN .i64 (k + m)) (by decide) (fun _ => by kernel_rfl) (fun _ => by kernel_rfl) (fun _ _ => (run_add (k := .i64) (a := k) (b := m) (by kernel_rfl) (by kernel_rfl) (by simp only [top]; omega)))) ?_
        refine AllGhost2.cons (by kernel_rfl) (gf_plain (v := iN .i64 k) (by decide) (fun _ => by kernel_rfl) (fun _ => by kernel_rfl) (fun _ _ => (by kernel_rfl))) ?_
        refine AllGhost2.cons (by kernel_rfl) (gf_plain (v := .pointer (some ⟨q1, k, none⟩)) (by decide) (fun _ => by kernel_rfl) (fun _ => by kernel_rfl) (fun _ _ => (run_addr_arr (q := q1) (a := k) Tryd.underlying34 (fun w => Tryd.sizeOf32 w) (by kernel_rfl) (by kernel_rfl) (by omega)))) ?_
        refine AllGhost2.cons (by kernel_rfl) (gf_cell2 (v := iN .u64 (a / K ^ k % K)) 4 (by decide) rfl (by decide) k (el_get a k (by omega)) (fun w => Tryd.isAgg32 w) (fun _ => by kernel_rfl) (fun _ => by kernel_rfl) (fun _ => by kernel_rfl)) ?_
        refine AllGhost2.cons (by kernel_rfl) (gf_plain (v := iN .i64 m) (by decide) (fun _ => by kernel_rfl) (fun _ => by kernel_rfl) (fun _ _ => (by kernel_rfl))) ?_
        refine AllGhost2.cons (by kernel_rfl) (gf_plain (v := .pointer (some ⟨q4, m, none⟩)) (by decide) (fun _ => by kernel_rfl) (fun _ => by kernel_rfl) (fun _ _ => (run_addr_arr (q := q4) (a := m) Tryd.underlying34 (fun w => Tryd.sizeOf32 w) (by kernel_rfl) (by kernel_rfl) (by omega)))) ?_
        refine AllGhost2.cons (by kernel_rfl) (gf_cell2 (v := iN .u64 (b / K ^ m % K)) 3 (by decide) rfl (by decide) m (el_get b m (by omega)) (fun w => Tryd.isAgg32 w) (fun _ => by kernel_rfl) (fun _ => by kernel_rfl) (fun _ => by kernel_rfl)) ?_
        refine AllGhost2.cons (by kernel_rfl) (gf_plain (v := iN .i64 k) (by decide) (fun _ => by kernel_rfl) (fun _ => by kernel_rfl) (fun _ _ => (by kernel_rfl))) ?_
        refine AllGhost2.cons (by kernel_rfl) (gf_plain (v := iN .i64 m) (by decide) (fun _ => by kernel_rfl) (fun _ => by kernel_rfl) (fun _ _ => (by kernel_rfl))) ?_
        refine AllGhost2.cons (by kernel_rfl) (gf_plain (v := iN .i64 (k + m)) (by decide) (fun _ => by kernel_rfl) (fun _ => by kernel_rfl) (fun _ _ => (run_add (k := .i64) (a := k) (b := m) (by kernel_rfl) (by kernel_rfl) (by simp only [top]; omega)))) ?_
        refine AllGhost2.cons (by kernel_rfl) (gf_plain (v := .pointer (some ⟨q13, k + m, none⟩)) (by decide) (fun _ => by kernel_rfl) (fun _ => by kernel_rfl) (fun _ _ => (run_addr_arr (q := q13) (a := k + m) Tryd.underlying61 (fun w => Tryd.sizeOf32 w) (by kernel_rfl) (by kernel_rfl) (by omega)))) ?_
        refine AllGhost2.cons (by kernel_rfl) (gf_cell (v := iN .u64 (M / K ^ (k + m) % K)) 0 rfl (by decide) (k + m) (el8_get M (k + m) (by omega)) (fun w => Tryd.isAgg32 w) (fun _ => by kernel_rfl) (fun _ => by kernel_rfl) (fun _ => by kernel_rfl)) ?_
        refine AllGhost2.was (by kernel_rfl) (fun _ => by kernel_rfl) (fun _ _ w h => h.keep (by decide) (Below.refl _ w)) ?_
        refine AllGhost2.cons (by kernel_rfl) (gf_call (v := .tuple #[iN .u64 ((a / K ^ k % K * (b / K ^ m % K) + M / K ^ (k + m) % K + c) / 18446744073709551616), iN .u64 ((a / K ^ k % K * (b / K ^ m % K) + M / K ^ (k + m) % K + c) % 18446744073709551616)]) (by decide) (fun _ => by kernel_rfl) (fun _ => by kernel_rfl) enter41 #[iN .u64 (a / K ^ k % K), iN .u64 (b / K ^ m % K), iN .u64 (M / K ^ (k + m) % K), iN .u64 c] (fun _ => by kernel_rfl) (fun w' => step_below _ _ _ _ (Nat.mod_lt _ (by decide)) (Nat.mod_lt _ (by decide)) (Nat.mod_lt _ (by decide)) hc w')) ?_
        refine AllGhost2.cons (by kernel_rfl) (gf_plain (v := .tuple #[iN .u64 ((a / K ^ k % K * (b / K ^ m % K) + M / K ^ (k + m) % K + c) / 18446744073709551616), iN .u64 ((a / K ^ k % K * (b / K ^ m % K) + M / K ^ (k + m) % K + c) % 18446744073709551616)]) (by decide) (fun _ => by kernel_rfl) (fun _ => by kernel_rfl) (fun _ _ => (by kernel_rfl))) ?_
        refine AllGhost2.cons (by kernel_rfl) (gf_plain (v := iN .u64 ((a / K ^ k % K * (b / K ^ m % K) + M / K ^ (k + m) % K + c) / 18446744073709551616)) (by decide) (fun _ => by kernel_rfl) (fun _ => by kernel_rfl) (fun _ _ => (by kernel_rfl))) ?_
        refine AllGhost2.cons (by kernel_rfl) (gf_plain (v := iN .u64 ((a / K ^ k % K * (b / K ^ m % K) + M / K ^ (k + m) % K + c) % 18446744073709551616)) (by decide) (fun _ => by kernel_rfl) (fun _ => by kernel_rfl) (fun _ _ => (by kernel_rfl))) ?_
        refine AllGhost2.cons (by kernel_rfl) (gf_plain (v := iN .u64 ((a / K ^ k % K * (b / K ^ m % K) + M / K ^ (k + m) % K + c) / 18446744073709551616)) (by decide) (fun _ => by kernel_rfl) (fun _ => by kernel_rfl) (fun _ _ => (by kernel_rfl))) ?_
        refine AllGhost2.cons (by kernel_rfl) (gf_plain (v := .pointer (some ⟨q13, k + m, none⟩)) (by decide) (fun _ => by kernel_rfl) (fun _ => by kernel_rfl) (fun _ _ => (run_addr_arr (q := q13) (a := k + m) Tryd.underlying61 (fun w => Tryd.sizeOf32 w) (by kernel_rfl) (by kernel_rfl) (by omega)))) ?_
        refine AllGhost2.cons (by kernel_rfl) (gf_put (k := .u64) (z := (((a / K ^ k % K * (b / K ^ m % K) + M / K ^ (k + m) % K + c) % 18446744073709551616 : Nat) : Int)) (off := k + m) rfl (by rw [el8_size]; omega) (el8_put _ _ _ _ e1) (fun w => Tryd.sizeOf32 w) (fun _ => by kernel_rfl) (fun _ => by kernel_rfl) (fun _ => by kernel_rfl) (fun _ => by kernel_rfl) (by decide) (by kernel_rfl)) ?_
        exact AllGhost2.nil
      intro _ w22 g23
      have h24 : HA w [(q13, 61, el8 M'), (q10, 34, el 0), (q7, 34, el 0), (q4, 34, el b), (q1, 34, el a)] w22 := g23.held
      clear g23
      refine block_normal ?_
      refine then_at (F := ⟨(arr a :: arr b :: pt q1 :: pt q4 :: pt q7 :: pt q10 :: pt q13 :: iN .i64 k :: iN .u64 ((a / K ^ k % K * (b / K ^ m % K) + M / K ^ (k + m) % K + c) / 18446744073709551616) :: iN .i64 m :: un :: un :: iN .i64 k :: .bool true :: iN .i64 k :: iN .i64 m :: .bool true :: iN .i64 m :: .tuple #[iN .u64 ((a / K ^ k % K * (b / K ^ m % K) + M / K ^ (k + m) % K + c) / 18446744073709551616), iN .u64 ((a / K ^ k % K * (b / K ^ m % K) + M / K ^ (k + m) % K + c) % 18446744073709551616)] :: iN .i64 k :: iN .i64 m :: iN .i64 (k + m) :: iN .i64 k :: .pointer (some ⟨q1, k, none⟩) :: iN .u64 (a / K ^ k % K) :: iN .i64 m :: .pointer (some ⟨q4, m, none⟩) :: iN .u64 (b / K ^ m % K) :: iN .i64 k :: iN .i64 m :: iN .i64 (k + m) :: .pointer (some ⟨q13, k + m, none⟩) :: iN .u64 (M / K ^ (k + m) % K) :: iN .u64 c :: .tuple #[iN .u64 ((a / K ^ k % K * (b / K ^ m % K) + M / K ^ (k + m) % K + c) / 18446744073709551616), iN .u64 ((a / K ^ k % K * (b / K ^ m % K) + M / K ^ (k + m) % K + c) % 18446744073709551616)] :: iN .u64 ((a / K ^ k % K * (b / K ^ m % K) + M / K ^ (k + m) % K + c) / 18446744073709551616) :: iN .u64 ((a / K ^ k % K * (b / K ^ m % K) + M / K ^ (k + m) % K + c) % 18446744073709551616) :: .pointer (some ⟨q13, k + m, none⟩) :: u19 38 :: u16 39 :: u16 40 :: u16 41 :: u16 42 :: u16 43 :: List.replicate 8 un).toArray, []⟩) (by kernel_rfl) ?_
      -- region 10
      refine wl_region ?_
      refine wl_val (iN .i64 (m + 1)) (by kernel_rfl) (run_add (k := .i64) (a := m) (b := 1) (by kernel_rfl) (by kernel_rfl) (by simp only [top]; omega)) ?_
      refine wl_val (iN .i64 (m + 1)) (by kernel_rfl) (by kernel_rfl) ?_
      refine wl_nil ?_
      exact then_I ⟨4 - (m + 1), by omega, m + 1, (a / K ^ k % K * (b / K ^ m % K) + M / K ^ (k + m) % K + c) / 18446744073709551616, M', fun ii => (([(9, iN .i64 m), (16, .bool true), (17, iN .i64 m), (18, .tuple #[iN .u64 ((a / K ^ k % K * (b / K ^ m % K) + M / K ^ (k + m) % K + c) / 18446744073709551616), iN .u64 ((a / K ^ k % K * (b / K ^ m % K) + M / K ^ (k + m) % K + c) % 18446744073709551616)]), (19, iN .i64 k), (20, iN .i64 m), (21, iN .i64 (k + m)), (22, iN .i64 k), (23, .pointer (some ⟨q1, k, none⟩)), (24, iN .u64 (a / K ^ k % K)), (25, iN .i64 m), (26, .pointer (some ⟨q4, m, none⟩)), (27, iN .u64 (b / K ^ m % K)), (28, iN .i64 k), (29, iN .i64 m), (30, iN .i64 (k + m)), (31, .pointer (some ⟨q13, k + m, none⟩)), (32, iN .u64 (M / K ^ (k + m) % K)), (33, iN .u64 c), (34, .tuple #[iN .u64 ((a / K ^ k % K * (b / K ^ m % K) + M / K ^ (k + m) % K + c) / 18446744073709551616), iN .u64 ((a / K ^ k % K * (b / K ^ m % K) + M / K ^ (k + m) % K + c) % 18446744073709551616)]), (35, iN .u64 ((a / K ^ k % K * (b / K ^ m % K) + M / K ^ (k + m) % K + c) / 18446744073709551616)), (36, iN .u64 ((a / K ^ k % K * (b / K ^ m % K) + M / K ^ (k + m) % K + c) % 18446744073709551616)), (37, .pointer (some ⟨q13, k + m, none⟩)), (38, iN .i64 (m + 1))] : List (Nat × Value)).find? (·.1 == ii)).elim undef (·.2), rfl, by kernel_rfl, h24, by omega, e4, e2, e3⟩
    · obtain rfl : m = 4 := by omega
      have hR := mul_row K M c a b k (by decide) hb hM hlow hk hc
      -- region 7
      refine wl_region ?_
      refine wl_val (.bool false) (by kernel_rfl) (run_lss (k := .i64) (a := 4) (b := 4) (by kernel_rfl) (by kernel_rfl) false (by decide)) ?_
      refine wl_nil ?_
      refine then_at (F := ⟨(arr a :: arr b :: pt q1 :: pt q4 :: pt q7 :: pt q10 :: pt q13 :: iN .i64 k :: iN .u64 c :: u19 9 :: un :: un :: iN .i64 k :: .bool true :: iN .i64 k :: iN .i64 4 :: .bool false :: u19 17 :: u19 18 :: u19 19 :: u19 20 :: u19 21 :: u19 22 :: u19 23 :: u19 24 :: u19 25 :: u19 26 :: u19 27 :: u19 28 :: u19 29 :: u19 30 :: u19 31 :: u19 32 :: u19 33 :: u19 34 :: u19 35 :: u19 36 :: u19 37 :: u19 38 :: u16 39 :: u16 40 :: u16 41 :: u16 42 :: u16 43 :: List.replicate 8 un).toArray, []⟩) (by kernel_rfl) ?_
      refine wp_seq ?_
      refine wp_cond_false (by kernel_rfl) ?_
      refine wp_exit ?_
      repeat first | refine then_exit ?_ | refine block_exit ?_ | refine block_exit_ne (by decide) ?_
      refine then_at (F := ⟨(arr a :: arr b :: pt q1 :: pt q4 :: pt q7 :: pt q10 :: pt q13 :: iN .i64 k :: iN .u64 c :: u19 9 :: un :: un :: iN .i64 k :: .bool true :: iN .i64 k :: iN .i64 4 :: .bool false :: u19 17 :: u19 18 :: u19 19 :: u19 20 :: u19 21 :: u19 22 :: u19 23 :: u19 24 :: u19 25 :: u19 26 :: u19 27 :: u19 28 :: u19 29 :: u19 30 :: u19 31 :: u19 32 :: u19 33 :: u19 34 :: u19 35 :: u19 36 :: u19 37 :: u19 38 :: u16 39 :: u16 40 :: u16 41 :: u16 42 :: u16 43 :: List.replicate 8 un).toArray, []⟩) (by kernel_rfl) ?_
      -- region 11
      refine wl_region ?_
      refine wl_val (iN .i64 k) (by kernel_rfl) (by kernel_rfl) ?_
      refine wl_val (iN .i64 (k + 4)) (by kernel_rfl) (run_add (k := .i64) (a := k) (b := 4) (by kernel_rfl) (by kernel_rfl) (by simp only [top]; omega)) ?_
      refine wl_val (iN .u64 c) (by kernel_rfl) (by kernel_rfl) ?_
      refine wl_val (.pointer (some ⟨q13, k + 4, none⟩)) (by kernel_rfl) (run_addr_arr (q := q13) (a := k + 4) Tryd.underlying61 (fun w => Tryd.sizeOf32 w) (by kernel_rfl) (by kernel_rfl) (by omega)) ?_
      refine wl_put (k := .u64) (z := ((c : Nat) : Int)) h21 0 rfl (k + 4) (by rw [el8_size]; omega) (by kernel_rfl) (fun w => Tryd.sizeOf32 w) (by kernel_rfl) (by kernel_rfl) ?_
      intro w25 h26
      have h27 : HA w [(q13, 61, el8 (a % K ^ (k + 1) * b)), (q10, 34, el 0), (q7, 34, el 0), (q4, 34, el b), (q1, 34, el a)] w25 := (by rw [← el8_put _ _ _ _ hR.1]; exact h26)
      clear h26
      refine wl_nil ?_
      refine block_normal ?_
      refine then_at (F := ⟨(arr a :: arr b :: pt q1 :: pt q4 :: pt q7 :: pt q10 :: pt q13 :: iN .i64 k :: iN .u64 c :: u19 9 :: un :: un :: iN .i64 k :: .bool true :: iN .i64 k :: iN .i64 4 :: .bool false :: u19 17 :: u19 18 :: u19 19 :: u19 20 :: u19 21 :: u19 22 :: u19 23 :: u19 24 :: u19 25 :: u19 26 :: u19 27 :: u19 28 :: u19 29 :: u19 30 :: u19 31 :: u19 32 :: u19 33 :: u19 34 :: u19 35 :: u19 36 :: u19 37 :: u19 38 :: iN .i64 k :: iN .i64 (k + 4) :: iN .u64 c :: .pointer (some ⟨q13, k + 4, none⟩) :: u16 43 :: List.replicate 8 un).toArray, []⟩) (by kernel_rfl) ?_
      -- region 12
      refine wl_region ?_
      refine wl_val (iN .i64 (k + 1)) (by kernel_rfl) (run_add (k := .i64) (a := k) (b := 1) (by kernel_rfl) (by kernel_rfl) (by simp only [top]; omega)) ?_
      refine wl_val (iN .i64 (k + 1)) (by kernel_rfl) (by kernel_rfl) ?_
      refine wl_nil ?_
      exact then_I ⟨fun ii => (([(7, iN .i64 k), (8, iN .u64 c), (9, u19 9), (13, .bool true), (14, iN .i64 k), (15, iN .i64 4), (16, .bool false), (17, u19 17), (18, u19 18), (19, u19 19), (20, u19 20), (21, u19 21), (22, u19 22), (23, u19 23), (24, u19 24), (25, u19 25), (26, u19 26), (27, u19 27), (28, u19 28), (29, u19 29), (30, u19 30), (31, u19 31), (32, u19 32), (33, u19 33), (34, u19 34), (35, u19 35), (36, u19 36), (37, u19 37), (38, u19 38), (39, iN .i64 k), (40, iN .i64 (k + 4)), (41, iN .u64 c), (42, .pointer (some ⟨q13, k + 4, none⟩)), (43, iN .i64 (k + 1))] : List (Nat × Value)).find? (·.1 == ii)).elim undef (·.2), by kernel_rfl, h27⟩
  · rintro _ w28 ⟨u16, rfl, h29⟩
    refine wp_seq ?_
    -- region 3
    refine wl_region ?_
    refine wl_val (.bool false) (by kernel_rfl) (run_lss (k := .i64) (a := 4) (b := 4) (by kernel_rfl) (by kernel_rfl) false (by decide)) ?_
    refine wl_nil ?_
    refine then_at (F := ⟨(arr a :: arr b :: pt q1 :: pt q4 :: pt q7 :: pt q10 :: pt q13 :: u16 7 :: u16 8 :: u16 9 :: un :: un :: iN .i64 4 :: .bool false :: u16 14 :: u16 15 :: u16 16 :: u16 17 :: u16 18 :: u16 19 :: u16 20 :: u16 21 :: u16 22 :: u16 23 :: u16 24 :: u16 25 :: u16 26 :: u16 27 :: u16 28 :: u16 29 :: u16 30 :: u16 31 :: u16 32 :: u16 33 :: u16 34 :: u16 35 :: u16 36 :: u16 37 :: u16 38 :: u16 39 :: u16 40 :: u16 41 :: u16 42 :: u16 43 :: List.replicate 8 un).toArray, []⟩) (by kernel_rfl) ?_
    refine wp_seq ?_
    refine wp_cond_false (by kernel_rfl) ?_
    refine wp_exit ?_
    repeat first | refine then_exit ?_ | refine block_exit ?_ | refine block_exit_ne (by decide) ?_
    have h30 : HA w [(q13, 61, el8 (a * b)), (q10, 34, el 0), (q7, 34, el 0), (q4, 34, el b), (q1, 34, el a)] w28 := by have e4 := Nat.mod_eq_of_lt ha; rw [e4] at h29; exact h29
    refine then_at (F := ⟨(arr a :: arr b :: pt q1 :: pt q4 :: pt q7 :: pt q10 :: pt q13 :: u16 7 :: u16 8 :: u16 9 :: un :: un :: iN .i64 4 :: .bool false :: u16 14 :: u16 15 :: u16 16 :: u16 17 :: u16 18 :: u16 19 :: u16 20 :: u16 21 :: u16 22 :: u16 23 :: u16 24 :: u16 25 :: u16 26 :: u16 27 :: u16 28 :: u16 29 :: u16 30 :: u16 31 :: u16 32 :: u16 33 :: u16 34 :: u16 35 :: u16 36 :: u16 37 :: u16 38 :: u16 39 :: u16 40 :: u16 41 :: u16 42 :: u16 43 :: List.replicate 8 un).toArray, []⟩) (by kernel_rfl) ?_
    refine wp_seq ?_
    -- region 13
    refine wl_region ?_
    refine wl_make h30 34 (by kernel_rfl) run_alloc34 ?_
    intro q31 w32 h33
    refine wl_make h33 34 (by kernel_rfl) run_alloc34 ?_
    intro q34 w35 h36
    refine wl_nil ?_
    refine then_at (F := ⟨(arr a :: arr b :: pt q1 :: pt q4 :: pt q7 :: pt q10 :: pt q13 :: u16 7 :: u16 8 :: u16 9 :: pt q31 :: pt q34 :: iN .i64 4 :: .bool false :: u16 14 :: u16 15 :: u16 16 :: u16 17 :: u16 18 :: u16 19 :: u16 20 :: u16 21 :: u16 22 :: u16 23 :: u16 24 :: u16 25 :: u16 26 :: u16 27 :: u16 28 :: u16 29 :: u16 30 :: u16 31 :: u16 32 :: u16 33 :: u16 34 :: u16 35 :: u16 36 :: u16 37 :: u16 38 :: u16 39 :: u16 40 :: u16 41 :: u16 42 :: u16 43 :: List.replicate 8 un).toArray, []⟩) (by kernel_rfl) ?_
    refine wp_seq ?_
    -- region 14
    refine wp_region_ghost (fun _ : Nat → Nat => (⟨(arr a :: arr b :: pt q1 :: pt q4 :: pt q7 :: pt q10 :: pt q13 :: u16 7 :: u16 8 :: u16 9 :: pt q31 :: pt q34 :: iN .i64 4 :: .bool false :: u16 14 :: u16 15 :: u16 16 :: u16 17 :: u16 18 :: u16 19 :: u16 20 :: u16 21 :: u16 22 :: u16 23 :: u16 24 :: u16 25 :: u16 26 :: u16 27 :: u16 28 :: u16 29 :: u16 30 :: u16 31 :: u16 32 :: u16 33 :: u16 34 :: u16 35 :: u16 36 :: u16 37 :: u16 38 :: u16 39 :: u16 40 :: u16 41 :: u16 42 :: u16 43 :: .slice (some ⟨q31, 0, none⟩) 4 4 :: .slice (some ⟨q13, 4, none⟩) 4 4 :: iN .i64 4 :: List.replicate 5 un).toArray, []⟩ : Act)) (GP w [(q34, 34, el 0), (q31, 34, el 0), (q13, 61, el8 (a * b)), (q10, 34, el 0), (q7, 34, el 0), (q4, 34, el b), (q1, 34, el a)] 2 1 q31 34 (el (a * b / K ^ 4))) [.slice (some ⟨q31, 0, none⟩) 4 4, .slice (some ⟨q13, 4, none⟩) 4 4, iN .i64 4] (by kernel_rfl) (by kernel_rfl) (by kernel_rfl) (by kernel_rfl) (fun _ _ _ _ h => h) (fun d hd => GP.start h36.drew (hd 2 (by decide))) ?_ ?_
    · refine AllGhost.cons (gp_plain (v := .slice (some ⟨q31, 0, none⟩) 4 4) (by decide) (fun _ => by kernel_rfl) (fun _ => by kernel_rfl) (fun _ _ => (run_slice34 (q := q31) (by kernel_rfl)))) ?_
      refine AllGhost.cons (gp_plain (v := .slice (some ⟨q13, 4, none⟩) 4 4) (by decide) (fun _ => by kernel_rfl) (fun _ => by kernel_rfl) (fun _ _ => (run_slice61h (q := q13) (by kernel_rfl) (by kernel_rfl)))) ?_
      refine AllGhost.cons (gp_copy (o := 4) (n := 4) (m := 2) rfl rfl rfl rfl (high_words (a * b)) (one_cl _ _) (fun _ => by kernel_rfl) (fun _ _ => by kernel_rfl) (fun _ => by kernel_rfl) (fun _ => by kernel_rfl)) ?_
      exact AllGhost.nil
    intro _ w37 g38
    have h39 : HA w [(q34, 34, el 0), (q31, 34, el (a * b / K ^ 4)), (q13, 61, el8 (a * b)), (q10, 34, el 0), (q7, 34, el 0), (q4, 34, el b), (q1, 34, el a)] w37 := g38
    clear g38
    refine then_at (F := ⟨(arr a :: arr b :: pt q1 :: pt q4 :: pt q7 :: pt q10 :: pt q13 :: u16 7 :: u16 8 :: u16 9 :: pt q31 :: pt q34 :: iN .i64 4 :: .bool false :: u16 14 :: u16 15 :: u16 16 :: u16 17 :: u16 18 :: u16 19 :: u16 20 :: u16 21 :: u16 22 :: u16 23 :: u16 24 :: u16 25 :: u16 26 :: u16 27 :: u16 28 :: u16 29 :: u16 30 :: u16 31 :: u16 32 :: u16 33 :: u16 34 :: u16 35 :: u16 36 :: u16 37 :: u16 38 :: u16 39 :: u16 40 :: u16 41 :: u16 42 :: u16 43 :: .slice (some ⟨q31, 0, none⟩) 4 4 :: .slice (some ⟨q13, 4, none⟩) 4 4 :: iN .i64 4 :: List.replicate 5 un).toArray, []⟩) (by kernel_rfl) ?_
    refine wp_seq ?_
    -- region 15
    refine wp_region_ghost (fun _ : Nat → Nat => (⟨(arr a :: arr b :: pt q1 :: pt q4 :: pt q7 :: pt q10 :: pt q13 :: u16 7 :: u16 8 :: u16 9 :: pt q31 :: pt q34 :: iN .i64 4 :: .bool false :: u16 14 :: u16 15 :: u16 16 :: u16 17 :: u16 18 :: u16 19 :: u16 20 :: u16 21 :: u16 22 :: u16 23 :: u16 24 :: u16 25 :: u16 26 :: u16 27 :: u16 28 :: u16 29 :: u16 30 :: u16 31 :: u16 32 :: u16 33 :: u16 34 :: u16 35 :: u16 36 :: u16 37 :: u16 38 :: u16 39 :: u16 40 :: u16 41 :: u16 42 :: u16 43 :: .slice (some ⟨q31, 0, none⟩) 4 4 :: .slice (some ⟨q13, 4, none⟩) 4 4 :: iN .i64 4 :: .slice (some ⟨q34, 0, none⟩) 4 4 :: .slice (some ⟨q13, 0, none⟩) 4 8 :: iN .i64 4 :: List.replicate 2 un).toArray, []⟩ : Act)) (GP w [(q34, 34, el 0), (q31, 34, el (a * b / K ^ 4)), (q13, 61, el8 (a * b)), (q10, 34, el 0), (q7, 34, el 0), (q4, 34, el b), (q1, 34, el a)] 2 0 q34 34 (el (a * b))) [.slice (some ⟨q34, 0, none⟩) 4 4, .slice (some ⟨q13, 0, none⟩) 4 8, iN .i64 4] (by kernel_rfl) (by kernel_rfl) (by kernel_rfl) (by kernel_rfl) (fun _ _ _ _ h => h) (fun d hd => GP.start h39.drew (hd 2 (by decide))) ?_ ?_
    · refine AllGhost.cons (gp_plain (v := .slice (some ⟨q34, 0, none⟩) 4 4) (by decide) (fun _ => by kernel_rfl) (fun _ => by kernel_rfl) (fun _ _ => (run_slice34 (q := q34) (by kernel_rfl)))) ?_
      refine AllGhost.cons (gp_plain (v := .slice (some ⟨q13, 0, none⟩) 4 8) (by decide) (fun _ => by kernel_rfl) (fun _ => by kernel_rfl) (fun _ _ => (run_slice61l (q := q13) (by kernel_rfl) (by kernel_rfl)))) ?_
      refine AllGhost.cons (gp_copy (o := 0) (n := 8) (m := 2) rfl rfl rfl rfl (low_words (a * b)) (one_cl _ _) (fun _ => by kernel_rfl) (fun _ _ => by kernel_rfl) (fun _ => by kernel_rfl) (fun _ => by kernel_rfl)) ?_
      exact AllGhost.nil
    intro _ w40 g41
    have h42 : HA w [(q34, 34, el (a * b)), (q31, 34, el (a * b / K ^ 4)), (q13, 61, el8 (a * b)), (q10, 34, el 0), (q7, 34, el 0), (q4, 34, el b), (q1, 34, el a)] w40 := g41
    clear g41
    refine then_at (F := ⟨(arr a :: arr b :: pt q1 :: pt q4 :: pt q7 :: pt q10 :: pt q13 :: u16 7 :: u16 8 :: u16 9 :: pt q31 :: pt q34 :: iN .i64 4 :: .bool false :: u16 14 :: u16 15 :: u16 16 :: u16 17 :: u16 18 :: u16 19 :: u16 20 :: u16 21 :: u16 22 :: u16 23 :: u16 24 :: u16 25 :: u16 26 :: u16 27 :: u16 28 :: u16 29 :: u16 30 :: u16 31 :: u16 32 :: u16 33 :: u16 34 :: u16 35 :: u16 36 :: u16 37 :: u16 38 :: u16 39 :: u16 40 :: u16 41 :: u16 42 :: u16 43 :: .slice (some ⟨q31, 0, none⟩) 4 4 :: .slice (some ⟨q13, 4, none⟩) 4 4 :: iN .i64 4 :: .slice (some ⟨q34, 0, none⟩) 4 4 :: .slice (some ⟨q13, 0, none⟩) 4 8 :: iN .i64 4 :: List.replicate 2 un).toArray, []⟩) (by kernel_rfl) ?_
    refine wp_seq ?_
    -- region 16
    refine wp_region_ghost (fun _ : Nat → Nat => (⟨(arr a :: arr b :: pt q1 :: pt q4 :: pt q7 :: pt q10 :: pt q13 :: u16 7 :: u16 8 :: u16 9 :: pt q31 :: pt q34 :: iN .i64 4 :: .bool false :: u16 14 :: u16 15 :: u16 16 :: u16 17 :: u16 18 :: u16 19 :: u16 20 :: u16 21 :: u16 22 :: u16 23 :: u16 24 :: u16 25 :: u16 26 :: u16 27 :: u16 28 :: u16 29 :: u16 30 :: u16 31 :: u16 32 :: u16 33 :: u16 34 :: u16 35 :: u16 36 :: u16 37 :: u16 38 :: u16 39 :: u16 40 :: u16 41 :: u16 42 :: u16 43 :: .slice (some ⟨q31, 0, none⟩) 4 4 :: .slice (some ⟨q13, 4, none⟩) 4 4 :: iN .i64 4 :: .slice (some ⟨q34, 0, none⟩) 4 4 :: .slice (some ⟨q13, 0, none⟩) 4 8 :: iN .i64 4 :: arr (a * b / K ^ 4) :: arr (a * b) :: List.replicate 0 un).toArray, []⟩ : Act)) (G2 w [(q34, 34, el (a * b)), (q31, 34, el (a * b / K ^ 4)), (q13, 61, el8 (a * b)), (q10, 34, el 0), (q7, 34, el 0), (q4, 34, el b), (q1, 34, el a)] 2 4 (q7, 34, el (a * b / K ^ 4)) 3 3 (q10, 34, el (a * b))) [arr (a * b / K ^ 4), arr (a * b), undef, undef] (by kernel_rfl) (by kernel_rfl) (by kernel_rfl) (by kernel_rfl) (fun _ _ _ _ h => h) (fun d hd => G2.start h42.drew (hd 2 (by decide)) (hd 3 (by decide))) ?_ ?_
    · refine AllGhost.cons (g2_load 1 rfl (by decide) (by decide) (by decide) (by decide) (fun _ => by kernel_rfl) (fun _ => by kernel_rfl) (fun _ => by kernel_rfl) Tryd.underlying34 rfl info34) ?_
      refine AllGhost.cons (g2_load 0 rfl (by decide) (by decide) (by decide) (by decide) (fun _ => by kernel_rfl) (fun _ => by kernel_rfl) (fun _ => by kernel_rfl) Tryd.underlying34 rfl info34) ?_
      refine AllGhost.cons (g2_fill0 rfl (el_sz _ _) (by decide) (by decide) (fun _ => by kernel_rfl) (fun _ => by kernel_rfl) (fun _ => by kernel_rfl) (fun _ => by kernel_rfl) info34 (one_cl _ _)) ?_
      refine AllGhost.cons (g2_fill1 rfl (el_sz _ _) (by decide) (by decide) (fun _ => by kernel_rfl) (fun _ => by kernel_rfl) (fun _ => by kernel_rfl) (fun _ => by kernel_rfl) info34 (one_cl _ _)) ?_
      exact AllGhost.nil
    intro _ w43 g44
    have h45 : HA w [(q34, 34, el (a * b)), (q31, 34, el (a * b / K ^ 4)), (q13, 61, el8 (a * b)), (q10, 34, el (a * b)), (q7, 34, el (a * b / K ^ 4)), (q4, 34, el b), (q1, 34, el a)] w43 := g44
    clear g44
    refine then_at (F := ⟨(arr a :: arr b :: pt q1 :: pt q4 :: pt q7 :: pt q10 :: pt q13 :: u16 7 :: u16 8 :: u16 9 :: pt q31 :: pt q34 :: iN .i64 4 :: .bool false :: u16 14 :: u16 15 :: u16 16 :: u16 17 :: u16 18 :: u16 19 :: u16 20 :: u16 21 :: u16 22 :: u16 23 :: u16 24 :: u16 25 :: u16 26 :: u16 27 :: u16 28 :: u16 29 :: u16 30 :: u16 31 :: u16 32 :: u16 33 :: u16 34 :: u16 35 :: u16 36 :: u16 37 :: u16 38 :: u16 39 :: u16 40 :: u16 41 :: u16 42 :: u16 43 :: .slice (some ⟨q31, 0, none⟩) 4 4 :: .slice (some ⟨q13, 4, none⟩) 4 4 :: iN .i64 4 :: .slice (some ⟨q34, 0, none⟩) 4 4 :: .slice (some ⟨q13, 0, none⟩) 4 8 :: iN .i64 4 :: arr (a * b / K ^ 4) :: arr (a * b) :: List.replicate 0 un).toArray, []⟩) (by kernel_rfl) ?_
    refine wp_ret ?_
    repeat first | refine then_ret ?_ | refine block_ret ?_
    exact bodyPost_ret (v := .tuple #[arr (a * b / K ^ 4), arr (a * b)]) (res_two (p := 4) (r := 5) (by kernel_rfl) (by kernel_rfl) (by kernel_rfl) (h45.get 4 rfl) (h45.get 3 rfl) Tryd.underlying34 rfl info34 info34) rfl ⟨rfl, h45.old⟩
end Go.Proofs.YtdblnbcclfenkaaDoor
