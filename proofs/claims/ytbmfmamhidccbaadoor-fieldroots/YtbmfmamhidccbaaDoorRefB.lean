/-
  The reference's functions: Bytes, Of.
-/
import Derived.Test.YtbmfmamhidccbaaDoorRefM
namespace Go.Proofs.YtbmfmamhidccbaaDoor
open Go.RowKit Num

theorem bytes_lt1 (n k : Nat) : n % 65536 ^ k < 256 ^ (2 * k) := by rw [← pow2]; exact Nat.mod_lt _ (Nat.pow_pos (by decide))
theorem bytes_lt2 (n k : Nat) : n % 65536 ^ k + n / 65536 ^ k % 65536 % 256 * 256 ^ (2 * k) < 256 ^ (2 * k + 1) := by
  have h := bytes_lt1 n k
  have h2 : n / 65536 ^ k % 65536 % 256 ≤ 255 := by omega
  have h3 := Nat.mul_le_mul_right (256 ^ (2 * k)) h2
  rw [Nat.pow_succ]
  omega

set_option linter.unusedVariables false in
set_option maxRecDepth 100000 in
set_option maxHeartbeats 2000000 in
theorem rbytes_any (n : Nat) (w : World) : Calls Tryd.prog 14 #[rarr n] w fun e w' => e = .returned (.string (bytesOf n)) ∧ Below w.heap.size w w' := by
  have H0 := HA.start w
  go_enter Tryd.func14, Tryd.ntmps14
  refine wp_seq ?_
  -- region 0
  refine wl_region ?_
  refine wl_make H0 30 (by kernel_rfl) (run_box30 (c := rl n) (by kernel_rfl)) ?_
  intro q1 w2 h3
  refine wl_val (.string { data := #[] }) (by kernel_rfl) (by kernel_rfl) ?_
  refine wl_nil ?_
  refine then_at (F := ⟨(rarr n :: pt q1 :: .string { data := #[] } :: List.replicate 27 un).toArray, []⟩) (by kernel_rfl) ?_
  refine wp_seq ?_
  -- region 1
  refine wl_region ?_
  refine wl_mkslice (n := 32) h3 5 (by kernel_rfl) (run_mk 32 (by decide) (by kernel_rfl) (by kernel_rfl)) ?_
  intro q4 w5 h6
  refine wl_val (.slice (some ⟨q4, 0, none⟩) 32 32) (by kernel_rfl) (by kernel_rfl) ?_
  refine wl_nil ?_
  refine then_at (F := ⟨(rarr n :: pt q1 :: .string { data := #[] } :: .slice (some ⟨q4, 0, none⟩) 32 32 :: un :: .slice (some ⟨q4, 0, none⟩) 32 32 :: List.replicate 24 un).toArray, []⟩) (by kernel_rfl) ?_
  refine wp_seq ?_
  refine wp_seq ?_
  -- region 2
  refine wl_region ?_
  refine wl_val (iN .i64 0) (by kernel_rfl) (by kernel_rfl) ?_
  refine wl_nil ?_
  refine then_at (F := ⟨(rarr n :: pt q1 :: .string { data := #[] } :: .slice (some ⟨q4, 0, none⟩) 32 32 :: iN .i64 0 :: .slice (some ⟨q4, 0, none⟩) 32 32 :: List.replicate 24 un).toArray, []⟩) (by kernel_rfl) ?_
  refine wp_block ?_
  refine wp_count (fun k A w' => ∃ u : Nat → Value, A = ⟨(rarr n :: pt q1 :: .string { data := #[] } :: .slice (some ⟨q4, 0, none⟩) 32 32 :: iN .i64 k :: .slice (some ⟨q4, 0, none⟩) 32 32 :: u 6 :: u 7 :: u 8 :: u 9 :: u 10 :: u 11 :: u 12 :: u 13 :: u 14 :: u 15 :: u 16 :: u 17 :: u 18 :: u 19 :: u 20 :: u 21 :: u 22 :: u 23 :: u 24 :: u 25 :: u 26 :: u 27 :: List.replicate 2 un).toArray, []⟩ ∧ HA w [(q4, 5, by8 (n % 65536 ^ k)), (q1, 30, rl n)] w') 16 ?_ ?_ ?_
  · exact ⟨fun i => (([(6, undef), (7, undef), (8, undef), (9, undef), (10, undef), (11, undef), (12, undef), (13, undef), (14, undef), (15, undef), (16, undef), (17, undef), (18, undef), (19, undef), (20, undef), (21, undef), (22, undef), (23, undef), (24, undef), (25, undef), (26, undef), (27, undef)] : List (Nat × Value)).find? (·.1 == i)).elim undef (·.2), by kernel_rfl, (by rw [Nat.pow_zero, Nat.mod_one, ← (by kernel_rfl : zr 32 = by8 0)]; exact h6)⟩
  · rintro k hk _ w7 ⟨u, rfl, h8⟩
    refine wp_seq ?_
    refine wp_seq ?_
    -- region 3
    refine wl_region ?_
    refine wl_val (iN .i64 k) (by kernel_rfl) (by kernel_rfl) ?_
    refine wl_val (.bool true) (by kernel_rfl) (run_lss (k := .i64) (a := k) (b := 16) (by kernel_rfl) (by kernel_rfl) true (decide_eq_true hk)) ?_
    refine wl_nil ?_
    refine then_at (F := ⟨(rarr n :: pt q1 :: .string { data := #[] } :: .slice (some ⟨q4, 0, none⟩) 32 32 :: iN .i64 k :: .slice (some ⟨q4, 0, none⟩) 32 32 :: iN .i64 k :: .bool true :: u 8 :: u 9 :: u 10 :: u 11 :: u 12 :: u 13 :: u 14 :: u 15 :: u 16 :: u 17 :: u 18 :: u 19 :: u 20 :: u 21 :: u 22 :: u 23 :: u 24 :: u 25 :: u 26 :: u 27 :: List.replicate 2 un).toArray, []⟩) (by kernel_rfl) ?_
    refine wp_cond_true (by kernel_rfl) ?_
    refine wp_skip ?_
    refine then_at (F := ⟨(rarr n :: pt q1 :: .string { data := #[] } :: .slice (some ⟨q4, 0, none⟩) 32 32 :: iN .i64 k :: .slice (some ⟨q4, 0, none⟩) 32 32 :: iN .i64 k :: .bool true :: u 8 :: u 9 :: u 10 :: u 11 :: u 12 :: u 13 :: u 14 :: u 15 :: u 16 :: u 17 :: u 18 :: u 19 :: u 20 :: u 21 :: u 22 :: u 23 :: u 24 :: u 25 :: u 26 :: u 27 :: List.replicate 2 un).toArray, []⟩) (by kernel_rfl) ?_
    refine wp_seq ?_
    refine wp_block ?_
    refine wp_seq ?_
    -- region 5
    refine wl_region ?_
    refine wl_val (.slice (some ⟨q4, 0, none⟩) 32 32) (by kernel_rfl) (by kernel_rfl) ?_
    refine wl_val (iN .i64 k) (by kernel_rfl) (by kernel_rfl) ?_
    refine wl_val (iN .i64 (2 * k)) (by kernel_rfl) (run_mul (k := .i64) (a := 2) (b := k) (by kernel_rfl) (by kernel_rfl) (by simp only [top]; omega)) ?_
    refine wl_val (iN .i64 k) (by kernel_rfl) (by kernel_rfl) ?_
    refine wl_val (.pointer (some ⟨q1, k, none⟩)) (by kernel_rfl) (run_addr_arr (q := q1) (a := k) Tryd.underlying30 (fun w => Tryd.sizeOf22 w) (by kernel_rfl) (by kernel_rfl) (by omega)) ?_
    refine wl_val (iN .u32 (n / 65536 ^ k % 65536)) (by kernel_rfl) (run_load1 (fun w => Tryd.isAgg22 w) (by kernel_rfl) (((h8.get 1 rfl).cell k).trans (rl_get n k (by omega)))) ?_
    refine wl_val (iN .u8 ((n / 65536 ^ k % 65536) % 256)) (by kernel_rfl) (run_conv8 (k := .u32) (a := n / 65536 ^ k % 65536) Tryd.underlying22 Tryd.underlying5 (by kernel_rfl)) ?_
    refine wl_val (.pointer (some ⟨q4, 2 * k, none⟩)) (by kernel_rfl) (run_addr_slice (q := q4) (n := 32) (m := 32) (a := 2 * k) Tryd.underlying55 (fun w => Tryd.sizeOf5 w) (by kernel_rfl) (by kernel_rfl) (by omega)) ?_
    refine wl_put (k := .u8) (z := (((n / 65536 ^ k % 65536) % 256 : Nat) : Int)) h8 0 rfl (2 * k) (by rw [by8_size]; omega) (by kernel_rfl) (fun w => Tryd.sizeOf5 w) (by kernel_rfl) (by kernel_rfl) ?_
    intro w9 h10
    have h11 : HA w [(q4, 5, by8 (n % 65536 ^ k + n / 65536 ^ k % 65536 % 256 * 256 ^ (2 * k))), (q1, 30, rl n)] w9 := (by rw [← by8_put (n % 65536 ^ k) (2 * k) (n / 65536 ^ k % 65536 % 256) (bytes_lt1 n k) (by omega) (Nat.mod_lt _ (by decide))]; exact h10)
    clear h10
    refine wl_nil ?_
    refine then_at (F := ⟨(rarr n :: pt q1 :: .string { data := #[] } :: .slice (some ⟨q4, 0, none⟩) 32 32 :: iN .i64 k :: .slice (some ⟨q4, 0, none⟩) 32 32 :: iN .i64 k :: .bool true :: u 8 :: u 9 :: .slice (some ⟨q4, 0, none⟩) 32 32 :: iN .i64 k :: iN .i64 (2 * k) :: iN .i64 k :: .pointer (some ⟨q1, k, none⟩) :: iN .u32 (n / 65536 ^ k % 65536) :: iN .u8 ((n / 65536 ^ k % 65536) % 256) :: .pointer (some ⟨q4, 2 * k, none⟩) :: u 18 :: u 19 :: u 20 :: u 21 :: u 22 :: u 23 :: u 24 :: u 25 :: u 26 :: u 27 :: List.replicate 2 un).toArray, []⟩) (by kernel_rfl) ?_
    -- region 6
    refine wl_region ?_
    refine wl_val (.slice (some ⟨q4, 0, none⟩) 32 32) (by kernel_rfl) (by kernel_rfl) ?_
    refine wl_val (iN .i64 k) (by kernel_rfl) (by kernel_rfl) ?_
    refine wl_val (iN .i64 (2 * k)) (by kernel_rfl) (run_mul (k := .i64) (a := 2) (b := k) (by kernel_rfl) (by kernel_rfl) (by simp only [top]; omega)) ?_
    refine wl_val (iN .i64 ((2 * k) + 1)) (by kernel_rfl) (run_add (k := .i64) (a := 2 * k) (b := 1) (by kernel_rfl) (by kernel_rfl) (by simp only [top]; omega)) ?_
    refine wl_val (iN .i64 k) (by kernel_rfl) (by kernel_rfl) ?_
    refine wl_val (.pointer (some ⟨q1, k, none⟩)) (by kernel_rfl) (run_addr_arr (q := q1) (a := k) Tryd.underlying30 (fun w => Tryd.sizeOf22 w) (by kernel_rfl) (by kernel_rfl) (by omega)) ?_
    refine wl_val (iN .u32 (n / 65536 ^ k % 65536)) (by kernel_rfl) (run_load1 (fun w => Tryd.isAgg22 w) (by kernel_rfl) (((h11.get 1 rfl).cell k).trans (rl_get n k (by omega)))) ?_
    refine wl_val (iN .u32 ((n / 65536 ^ k % 65536) / 2 ^ 8)) (by kernel_rfl) (run_shr (k2 := .u64) (k := .u32) (a := n / 65536 ^ k % 65536) (b := 8) (by kernel_rfl) (by kernel_rfl) (by decide)) ?_
    refine wl_val (iN .u8 (((n / 65536 ^ k % 65536) / 2 ^ 8) % 256)) (by kernel_rfl) (run_conv8 (k := .u32) (a := (n / 65536 ^ k % 65536) / 2 ^ 8) Tryd.underlying22 Tryd.underlying5 (by kernel_rfl)) ?_
    refine wl_val (.pointer (some ⟨q4, (2 * k) + 1, none⟩)) (by kernel_rfl) (run_addr_slice (q := q4) (n := 32) (m := 32) (a := (2 * k) + 1) Tryd.underlying55 (fun w => Tryd.sizeOf5 w) (by kernel_rfl) (by kernel_rfl) (by omega)) ?_
    refine wl_put (k := .u8) (z := ((((n / 65536 ^ k % 65536) / 2 ^ 8) % 256 : Nat) : Int)) h11 0 rfl ((2 * k) + 1) (by rw [by8_size]; omega) (by kernel_rfl) (fun w => Tryd.sizeOf5 w) (by kernel_rfl) (by kernel_rfl) ?_
    intro w12 h13
    have h14 : HA w [(q4, 5, by8 (n % 65536 ^ (k + 1))), (q1, 30, rl n)] w12 := (by rw [← two_bytes n k, ← by8_put (n % 65536 ^ k + n / 65536 ^ k % 65536 % 256 * 256 ^ (2 * k)) (2 * k + 1) (n / 65536 ^ k % 65536 / 2 ^ 8 % 256) (bytes_lt2 n k) (by omega) (Nat.mod_lt _ (by decide))]; exact h13)
    clear h13
    refine wl_nil ?_
    refine block_normal ?_
    refine then_at (F := ⟨(rarr n :: pt q1 :: .string { data := #[] } :: .slice (some ⟨q4, 0, none⟩) 32 32 :: iN .i64 k :: .slice (some ⟨q4, 0, none⟩) 32 32 :: iN .i64 k :: .bool true :: u 8 :: u 9 :: .slice (some ⟨q4, 0, none⟩) 32 32 :: iN .i64 k :: iN .i64 (2 * k) :: iN .i64 k :: .pointer (some ⟨q1, k, none⟩) :: iN .u32 (n / 65536 ^ k % 65536) :: iN .u8 ((n / 65536 ^ k % 65536) % 256) :: .pointer (some ⟨q4, 2 * k, none⟩) :: .slice (some ⟨q4, 0, none⟩) 32 32 :: iN .i64 k :: iN .i64 (2 * k) :: iN .i64 ((2 * k) + 1) :: iN .i64 k :: .pointer (some ⟨q1, k, none⟩) :: iN .u32 (n / 65536 ^ k % 65536) :: iN .u32 ((n / 65536 ^ k % 65536) / 2 ^ 8) :: iN .u8 (((n / 65536 ^ k % 65536) / 2 ^ 8) % 256) :: .pointer (some ⟨q4, (2 * k) + 1, none⟩) :: List.replicate 2 un).toArray, []⟩) (by kernel_rfl) ?_
    -- region 4
    refine wl_region ?_
    refine wl_val (iN .i64 k) (by kernel_rfl) (by kernel_rfl) ?_
    refine wl_val (iN .i64 (k + 1)) (by kernel_rfl) (run_add (k := .i64) (a := k) (b := 1) (by kernel_rfl) (by kernel_rfl) (by simp only [top]; omega)) ?_
    refine wl_val (iN .i64 (k + 1)) (by kernel_rfl) (by kernel_rfl) ?_
    refine wl_nil ?_
    exact then_I ⟨fun i => (([(6, iN .i64 k), (7, .bool true), (8, iN .i64 k), (9, iN .i64 (k + 1)), (10, .slice (some ⟨q4, 0, none⟩) 32 32), (11, iN .i64 k), (12, iN .i64 (2 * k)), (13, iN .i64 k), (14, .pointer (some ⟨q1, k, none⟩)), (15, iN .u32 (n / 65536 ^ k % 65536)), (16, iN .u8 ((n / 65536 ^ k % 65536) % 256)), (17, .pointer (some ⟨q4, 2 * k, none⟩)), (18, .slice (some ⟨q4, 0, none⟩) 32 32), (19, iN .i64 k), (20, iN .i64 (2 * k)), (21, iN .i64 ((2 * k) + 1)), (22, iN .i64 k), (23, .pointer (some ⟨q1, k, none⟩)), (24, iN .u32 (n / 65536 ^ k % 65536)), (25, iN .u32 ((n / 65536 ^ k % 65536) / 2 ^ 8)), (26, iN .u8 (((n / 65536 ^ k % 65536) / 2 ^ 8) % 256)), (27, .pointer (some ⟨q4, (2 * k) + 1, none⟩))] : List (Nat × Value)).find? (·.1 == i)).elim undef (·.2), by kernel_rfl, h14⟩
  · rintro _ w15 ⟨u, rfl, h16⟩
    refine wp_seq ?_
    refine wp_seq ?_
    -- region 3
    refine wl_region ?_
    refine wl_val (iN .i64 16) (by kernel_rfl) (by kernel_rfl) ?_
    refine wl_val (.bool false) (by kernel_rfl) (run_lss (k := .i64) (a := 16) (b := 16) (by kernel_rfl) (by kernel_rfl) false (by decide)) ?_
    refine wl_nil ?_
    refine then_at (F := ⟨(rarr n :: pt q1 :: .string { data := #[] } :: .slice (some ⟨q4, 0, none⟩) 32 32 :: iN .i64 16 :: .slice (some ⟨q4, 0, none⟩) 32 32 :: iN .i64 16 :: .bool false :: u 8 :: u 9 :: u 10 :: u 11 :: u 12 :: u 13 :: u 14 :: u 15 :: u 16 :: u 17 :: u 18 :: u 19 :: u 20 :: u 21 :: u 22 :: u 23 :: u 24 :: u 25 :: u 26 :: u 27 :: List.replicate 2 un).toArray, []⟩) (by kernel_rfl) ?_
    refine wp_cond_false (by kernel_rfl) ?_
    refine wp_exit ?_
    repeat first | refine then_exit ?_ | refine block_exit ?_ | refine block_exit_ne (by decide) ?_
    refine then_at (F := ⟨(rarr n :: pt q1 :: .string { data := #[] } :: .slice (some ⟨q4, 0, none⟩) 32 32 :: iN .i64 16 :: .slice (some ⟨q4, 0, none⟩) 32 32 :: iN .i64 16 :: .bool false :: u 8 :: u 9 :: u 10 :: u 11 :: u 12 :: u 13 :: u 14 :: u 15 :: u 16 :: u 17 :: u 18 :: u 19 :: u 20 :: u 21 :: u 22 :: u 23 :: u 24 :: u 25 :: u 26 :: u 27 :: List.replicate 2 un).toArray, []⟩) (by kernel_rfl) ?_
    refine wp_seq ?_
    -- region 7
    refine wl_region ?_
    refine wl_val (.slice (some ⟨q4, 0, none⟩) 32 32) (by kernel_rfl) (by kernel_rfl) ?_
    refine wl_val (.string (bytesOf n)) (by kernel_rfl) (run_text (les 32 n) (by kernel_rfl) (h16.get 0 rfl) (by8_text n) (by rw [les_length])) ?_
    refine wl_val (.string (bytesOf n)) (by kernel_rfl) (by kernel_rfl) ?_
    refine wl_nil ?_
    refine then_at (F := ⟨(rarr n :: pt q1 :: .string (bytesOf n) :: .slice (some ⟨q4, 0, none⟩) 32 32 :: iN .i64 16 :: .slice (some ⟨q4, 0, none⟩) 32 32 :: iN .i64 16 :: .bool false :: u 8 :: u 9 :: u 10 :: u 11 :: u 12 :: u 13 :: u 14 :: u 15 :: u 16 :: u 17 :: u 18 :: u 19 :: u 20 :: u 21 :: u 22 :: u 23 :: u 24 :: u 25 :: u 26 :: u 27 :: .slice (some ⟨q4, 0, none⟩) 32 32 :: .string (bytesOf n) :: List.replicate 0 un).toArray, []⟩) (by kernel_rfl) ?_
    refine wp_ret ?_
    repeat first | refine then_ret ?_ | refine block_ret ?_
    exact bodyPost_ret (v := .string (bytesOf n)) (by kernel_rfl) rfl ⟨rfl, h16.old⟩

theorem sb_shl (s : ByteArray) (i : Nat) : sb s i * 2 ^ 8 < 4294967296 := by have := sb_lt s i; omega
theorem sb_shl_top (s : ByteArray) (i : Nat) : sb s i * 2 ^ 8 < top .u32 := sb_shl s i
theorem of_put (s : ByteArray) (k : Nat) (hk : k < 16) : (rl (numS s % 65536 ^ k)).setIfInBounds k (.int .u32 ((sb s (2 * k) ||| sb s (2 * k + 1) * 2 ^ 8 : Nat) : Int)) = rl (numS s % 65536 ^ (k + 1)) := by
  rw [← dig16 s k]
  refine rl_put _ k _ (Nat.mod_lt _ (Nat.pow_pos (by decide))) hk ?_
  rw [or16 _ _ (sb_lt s _)]
  have := sb_lt s (2 * k)
  have := sb_lt s (2 * k + 1)
  omega
theorem rless_yes (a b : Nat) (ha : a < 65536 ^ 16) (hb : b < 65536 ^ 16) (h : a < b) (w : World) : Calls Tryd.prog 37 #[rarr a, rarr b] w fun e w' => e = .returned (.bool true) ∧ Below w.heap.size w w' := by
  have h1 := rless_any a b ha hb w
  rw [decide_eq_true h] at h1
  exact h1
theorem rless_no (a b : Nat) (ha : a < 65536 ^ 16) (hb : b < 65536 ^ 16) (h : ¬ a < b) (w : World) : Calls Tryd.prog 37 #[rarr a, rarr b] w fun e w' => e = .returned (.bool false) ∧ Below w.heap.size w w' := by
  have h1 := rless_any a b ha hb w
  rw [decide_eq_false h] at h1
  exact h1

set_option linter.unusedVariables false in
set_option maxRecDepth 100000 in
set_option maxHeartbeats 2000000 in
theorem rof_yes (s : ByteArray) (hl : s.size = 32) (hP : numS s % 65536 ^ 16 < P) (w : World) : Calls Tryd.prog 12 #[.string s] w fun e w' => e = .returned (.tuple #[rarr (numS s % 65536 ^ 16), .bool true]) ∧ Below w.heap.size w w' := by
  have H0 := HA.start w
  go_enter Tryd.func12, Tryd.ntmps12
  refine wp_seq ?_
  -- region 0
  refine wl_region ?_
  refine wl_make H0 30 (by kernel_rfl) run_alloc30 ?_
  intro q1 w2 h3
  refine wl_val (.bool false) (by kernel_rfl) (by kernel_rfl) ?_
  refine wl_nil ?_
  refine then_at (F := ⟨(.string s :: un :: pt q1 :: .bool false :: List.replicate 31 un).toArray, []⟩) (by kernel_rfl) ?_
  refine wp_seq ?_
  refine wp_seq ?_
  -- region 1
  refine wl_region ?_
  refine wl_val (.string s) (by kernel_rfl) (by kernel_rfl) ?_
  refine wl_val (iN .i64 s.size) (by kernel_rfl) (run_len (s := s) (by kernel_rfl)) ?_
  refine wl_val (.bool false) (by kernel_rfl) (run_nei (k := .i64) (a := s.size) (b := 32) (by kernel_rfl) (by kernel_rfl) false (decide_eq_false (fun h => h hl))) ?_
  refine wl_nil ?_
  refine then_at (F := ⟨(.string s :: un :: pt q1 :: .bool false :: un :: un :: .string s :: iN .i64 s.size :: .bool false :: List.replicate 26 un).toArray, []⟩) (by kernel_rfl) ?_
  refine wp_cond_false (by kernel_rfl) ?_
  refine wp_skip ?_
  refine then_at (F := ⟨(.string s :: un :: pt q1 :: .bool false :: un :: un :: .string s :: iN .i64 s.size :: .bool false :: List.replicate 26 un).toArray, []⟩) (by kernel_rfl) ?_
  refine wp_seq ?_
  -- region 3
  refine wl_region ?_
  refine wl_make h3 30 (by kernel_rfl) run_alloc30 ?_
  intro q4 w5 h6
  refine wl_nil ?_
  refine then_at (F := ⟨(.string s :: un :: pt q1 :: .bool false :: pt q4 :: un :: .string s :: iN .i64 s.size :: .bool false :: List.replicate 26 un).toArray, []⟩) (by kernel_rfl) ?_
  refine wp_seq ?_
  refine wp_seq ?_
  -- region 4
  refine wl_region ?_
  refine wl_val (iN .i64 0) (by kernel_rfl) (by kernel_rfl) ?_
  refine wl_nil ?_
  refine then_at (F := ⟨(.string s :: un :: pt q1 :: .bool false :: pt q4 :: iN .i64 0 :: .string s :: iN .i64 s.size :: .bool false :: List.replicate 26 un).toArray, []⟩) (by kernel_rfl) ?_
  refine wp_block ?_
  refine wp_count (fun k A w' => ∃ u : Nat → Value, A = ⟨(.string s :: un :: pt q1 :: .bool false :: pt q4 :: iN .i64 k :: .string s :: iN .i64 s.size :: .bool false :: un :: u 10 :: u 11 :: u 12 :: u 13 :: u 14 :: u 15 :: u 16 :: u 17 :: u 18 :: u 19 :: u 20 :: u 21 :: u 22 :: u 23 :: u 24 :: u 25 :: u 26 :: u 27 :: u 28 :: List.replicate 6 un).toArray, []⟩ ∧ HA w [(q4, 30, rl (numS s % 65536 ^ k)), (q1, 30, rl 0)] w') 16 ?_ ?_ ?_
  · exact ⟨fun i => (([(10, undef), (11, undef), (12, undef), (13, undef), (14, undef), (15, undef), (16, undef), (17, undef), (18, undef), (19, undef), (20, undef), (21, undef), (22, undef), (23, undef), (24, undef), (25, undef), (26, undef), (27, undef), (28, undef)] : List (Nat × Value)).find? (·.1 == i)).elim undef (·.2), by kernel_rfl, (by rw [Nat.pow_zero, Nat.mod_one]; exact h6)⟩
  · rintro k hk _ w7 ⟨u, rfl, h8⟩
    refine wp_seq ?_
    refine wp_seq ?_
    -- region 5
    refine wl_region ?_
    refine wl_val (iN .i64 k) (by kernel_rfl) (by kernel_rfl) ?_
    refine wl_val (.bool true) (by kernel_rfl) (run_lss (k := .i64) (a := k) (b := 16) (by kernel_rfl) (by kernel_rfl) true (decide_eq_true hk)) ?_
    refine wl_nil ?_
    refine then_at (F := ⟨(.string s :: un :: pt q1 :: .bool false :: pt q4 :: iN .i64 k :: .string s :: iN .i64 s.size :: .bool false :: un :: iN .i64 k :: .bool true :: u 12 :: u 13 :: u 14 :: u 15 :: u 16 :: u 17 :: u 18 :: u 19 :: u 20 :: u 21 :: u 22 :: u 23 :: u 24 :: u 25 :: u 26 :: u 27 :: u 28 :: List.replicate 6 un).toArray, []⟩) (by kernel_rfl) ?_
    refine wp_cond_true (by kernel_rfl) ?_
    refine wp_skip ?_
    refine then_at (F := ⟨(.string s :: un :: pt q1 :: .bool false :: pt q4 :: iN .i64 k :: .string s :: iN .i64 s.size :: .bool false :: un :: iN .i64 k :: .bool true :: u 12 :: u 13 :: u 14 :: u 15 :: u 16 :: u 17 :: u 18 :: u 19 :: u 20 :: u 21 :: u 22 :: u 23 :: u 24 :: u 25 :: u 26 :: u 27 :: u 28 :: List.replicate 6 un).toArray, []⟩) (by kernel_rfl) ?_
    refine wp_seq ?_
    refine wp_block ?_
    -- region 7
    refine wp_region_ghost (fun _ : Nat → Nat => (⟨(.string s :: un :: pt q1 :: .bool false :: pt q4 :: iN .i64 k :: .string s :: iN .i64 s.size :: .bool false :: un :: iN .i64 k :: .bool true :: u 12 :: u 13 :: iN .i64 k :: .string s :: iN .i64 k :: iN .i64 (2 * k) :: iN .u8 (sb s (2 * k)) :: iN .u32 (sb s (2 * k)) :: .string s :: iN .i64 k :: iN .i64 (2 * k) :: iN .i64 ((2 * k) + 1) :: iN .u8 (sb s ((2 * k) + 1)) :: iN .u32 (sb s ((2 * k) + 1)) :: iN .u32 ((sb s ((2 * k) + 1)) * 2 ^ 8) :: iN .u32 ((sb s (2 * k)) ||| ((sb s ((2 * k) + 1)) * 2 ^ 8)) :: .pointer (some ⟨q4, k, none⟩) :: List.replicate 6 un).toArray, []⟩ : Act)) (GP w [(q4, 30, rl (numS s % 65536 ^ k)), (q1, 30, rl 0)] 15 0 q4 30 (rl (numS s % 65536 ^ (k + 1)))) [iN .i64 k, .string s, iN .i64 k, iN .i64 (2 * k), iN .u8 (sb s (2 * k)), iN .u32 (sb s (2 * k)), .string s, iN .i64 k, iN .i64 (2 * k), iN .i64 ((2 * k) + 1), iN .u8 (sb s ((2 * k) + 1)), iN .u32 (sb s ((2 * k) + 1)), iN .u32 ((sb s ((2 * k) + 1)) * 2 ^ 8), iN .u32 ((sb s (2 * k)) ||| ((sb s ((2 * k) + 1)) * 2 ^ 8)), .pointer (some ⟨q4, k, none⟩), undef] (by kernel_rfl) (by kernel_rfl) (by kernel_rfl) (by kernel_rfl) (fun _ _ _ _ h => h) (fun d hd => GP.start h8.drew (hd 15 (by decide))) ?_ ?_
    · refine AllGhost.cons (gp_plain (v := iN .i64 k) (by decide) (fun _ => by kernel_rfl) (fun _ => by kernel_rfl) (fun _ _ => (by kernel_rfl))) ?_
      refine AllGhost.cons (gp_plain (v := .string s) (by decide) (fun _ => by kernel_rfl) (fun _ => by kernel_rfl) (fun _ _ => (by kernel_rfl))) ?_
      refine AllGhost.cons (gp_plain (v := iN .i64 k) (by decide) (fun _ => by kernel_rfl) (fun _ => by kernel_rfl) (fun _ _ => (by kernel_rfl))) ?_
      refine AllGhost.cons (gp_plain (v := iN .i64 (2 * k)) (by decide) (fun _ => by kernel_rfl) (fun _ => by kernel_rfl) (fun _ _ => (run_mul (k := .i64) (a := 2) (b := k) (by kernel_rfl) (by kernel_rfl) (by simp only [top]; omega)))) ?_
      refine AllGhost.cons (gp_plain (v := iN .u8 (sb s (2 * k))) (by decide) (fun _ => by kernel_rfl) (fun _ => by kernel_rfl) (fun _ _ => (run_sidx (s := s) (a := 2 * k) (by kernel_rfl) (by kernel_rfl) (by omega)))) ?_
      refine AllGhost.cons (gp_plain (v := iN .u32 (sb s (2 * k))) (by decide) (fun _ => by kernel_rfl) (fun _ => by kernel_rfl) (fun _ _ => (run_conv (k := .u8) (a := sb s (2 * k)) .u32 Tryd.underlying5 Tryd.underlying22 (by kernel_rfl) (Nat.lt_trans (sb_lt s _) (by decide))))) ?_
      refine AllGhost.cons (gp_plain (v := .string s) (by decide) (fun _ => by kernel_rfl) (fun _ => by kernel_rfl) (fun _ _ => (by kernel_rfl))) ?_
      refine AllGhost.cons (gp_plain (v := iN .i64 k) (by decide) (fun _ => by kernel_rfl) (fun _ => by kernel_rfl) (fun _ _ => (by kernel_rfl))) ?_
      refine AllGhost.cons (gp_plain (v := iN .i64 (2 * k)) (by decide) (fun _ => by kernel_rfl) (fun _ => by kernel_rfl) (fun _ _ => (run_mul (k := .i64) (a := 2) (b := k) (by kernel_rfl) (by kernel_rfl) (by simp only [top]; omega)))) ?_
      refine AllGhost.cons (gp_plain (v := iN .i64 ((2 * k) + 1)) (by decide) (fun _ => by kernel_rfl) (fun _ => by kernel_rfl) (fun _ _ => (run_add (k := .i64) (a := 2 * k) (b := 1) (by kernel_rfl) (by kernel_rfl) (by simp only [top]; omega)))) ?_
      refine AllGhost.cons (gp_plain (v := iN .u8 (sb s ((2 * k) + 1))) (by decide) (fun _ => by kernel_rfl) (fun _ => by kernel_rfl) (fun _ _ => (run_sidx (s := s) (a := (2 * k) + 1) (by kernel_rfl) (by kernel_rfl) (by omega)))) ?_
      refine AllGhost.cons (gp_plain (v := iN .u32 (sb s ((2 * k) + 1))) (by decide) (fun _ => by kernel_rfl) (fun _ => by kernel_rfl) (fun _ _ => (run_conv (k := .u8) (a := sb s ((2 * k) + 1)) .u32 Tryd.underlying5 Tryd.underlying22 (by kernel_rfl) (Nat.lt_trans (sb_lt s _) (by decide))))) ?_
      refine AllGhost.cons (gp_plain (v := iN .u32 ((sb s ((2 * k) + 1)) * 2 ^ 8)) (by decide) (fun _ => by kernel_rfl) (fun _ => by kernel_rfl) (fun _ _ => (run_shl (k2 := .u64) (k := .u32) (a := sb s ((2 * k) + 1)) (b := 8) (by kernel_rfl) (by kernel_rfl) (by decide) (sb_shl_top s _)))) ?_
      refine AllGhost.cons (gp_plain (v := iN .u32 ((sb s (2 * k)) ||| ((sb s ((2 * k) + 1)) * 2 ^ 8))) (by decide) (fun _ => by kernel_rfl) (fun _ => by kernel_rfl) (fun _ _ => (run_or32 (a := sb s (2 * k)) (b := (sb s ((2 * k) + 1)) * 2 ^ 8) (by kernel_rfl) (by kernel_rfl) (Nat.lt_trans (sb_lt s _) (by decide)) (sb_shl s _)))) ?_
      refine AllGhost.cons (gp_plain (v := .pointer (some ⟨q4, k, none⟩)) (by decide) (fun _ => by kernel_rfl) (fun _ => by kernel_rfl) (fun _ _ => (run_addr_arr (q := q4) (a := k) Tryd.underlying30 (fun w => Tryd.sizeOf22 w) (by kernel_rfl) (by kernel_rfl) (by omega)))) ?_
      refine AllGhost.cons (gp_put (k := .u32) (z := (((sb s (2 * k)) ||| ((sb s ((2 * k) + 1)) * 2 ^ 8) : Nat) : Int)) (off := k) rfl (by rw [rl_size]; omega) (of_put s k hk) (fun w => Tryd.sizeOf22 w) (fun _ => by kernel_rfl) (fun _ => by kernel_rfl) (fun _ => by kernel_rfl) (fun _ => by kernel_rfl)) ?_
      exact AllGhost.nil
    intro _ w9 g10
    have h11 : HA w [(q4, 30, rl (numS s % 65536 ^ (k + 1))), (q1, 30, rl 0)] w9 := g10
    clear g10
    refine block_normal ?_
    refine then_at (F := ⟨(.string s :: un :: pt q1 :: .bool false :: pt q4 :: iN .i64 k :: .string s :: iN .i64 s.size :: .bool false :: un :: iN .i64 k :: .bool true :: u 12 :: u 13 :: iN .i64 k :: .string s :: iN .i64 k :: iN .i64 (2 * k) :: iN .u8 (sb s (2 * k)) :: iN .u32 (sb s (2 * k)) :: .string s :: iN .i64 k :: iN .i64 (2 * k) :: iN .i64 ((2 * k) + 1) :: iN .u8 (sb s ((2 * k) + 1)) :: iN .u32 (sb s ((2 * k) + 1)) :: iN .u32 ((sb s ((2 * k) + 1)) * 2 ^ 8) :: iN .u32 ((sb s (2 * k)) ||| ((sb s ((2 * k) + 1)) * 2 ^ 8)) :: .pointer (some ⟨q4, k, none⟩) :: List.replicate 6 un).toArray, []⟩) (by kernel_rfl) ?_
    -- region 6
    refine wl_region ?_
    refine wl_val (iN .i64 k) (by kernel_rfl) (by kernel_rfl) ?_
    refine wl_val (iN .i64 (k + 1)) (by kernel_rfl) (run_add (k := .i64) (a := k) (b := 1) (by kernel_rfl) (by kernel_rfl) (by simp only [top]; omega)) ?_
    refine wl_val (iN .i64 (k + 1)) (by kernel_rfl) (by kernel_rfl) ?_
    refine wl_nil ?_
    exact then_I ⟨fun i => (([(10, iN .i64 k), (11, .bool true), (12, iN .i64 k), (13, iN .i64 (k + 1)), (14, iN .i64 k), (15, .string s), (16, iN .i64 k), (17, iN .i64 (2 * k)), (18, iN .u8 (sb s (2 * k))), (19, iN .u32 (sb s (2 * k))), (20, .string s), (21, iN .i64 k), (22, iN .i64 (2 * k)), (23, iN .i64 ((2 * k) + 1)), (24, iN .u8 (sb s ((2 * k) + 1))), (25, iN .u32 (sb s ((2 * k) + 1))), (26, iN .u32 ((sb s ((2 * k) + 1)) * 2 ^ 8)), (27, iN .u32 ((sb s (2 * k)) ||| ((sb s ((2 * k) + 1)) * 2 ^ 8))), (28, .pointer (some ⟨q4, k, none⟩))] : List (Nat × Value)).find? (·.1 == i)).elim undef (·.2), by kernel_rfl, h11⟩
  · rintro _ w12 ⟨u, rfl, h13⟩
    refine wp_seq ?_
    refine wp_seq ?_
    -- region 5
    refine wl_region ?_
    refine wl_val (iN .i64 16) (by kernel_rfl) (by kernel_rfl) ?_
    refine wl_val (.bool false) (by kernel_rfl) (run_lss (k := .i64) (a := 16) (b := 16) (by kernel_rfl) (by kernel_rfl) false (by decide)) ?_
    refine wl_nil ?_
    refine then_at (F := ⟨(.string s :: un :: pt q1 :: .bool false :: pt q4 :: iN .i64 16 :: .string s :: iN .i64 s.size :: .bool false :: un :: iN .i64 16 :: .bool false :: u 12 :: u 13 :: u 14 :: u 15 :: u 16 :: u 17 :: u 18 :: u 19 :: u 20 :: u 21 :: u 22 :: u 23 :: u 24 :: u 25 :: u 26 :: u 27 :: u 28 :: List.replicate 6 un).toArray, []⟩) (by kernel_rfl) ?_
    refine wp_cond_false (by kernel_rfl) ?_
    refine wp_exit ?_
    repeat first | refine then_exit ?_ | refine block_exit ?_ | refine block_exit_ne (by decide) ?_
    refine then_at (F := ⟨(.string s :: un :: pt q1 :: .bool false :: pt q4 :: iN .i64 16 :: .string s :: iN .i64 s.size :: .bool false :: un :: iN .i64 16 :: .bool false :: u 12 :: u 13 :: u 14 :: u 15 :: u 16 :: u 17 :: u 18 :: u 19 :: u 20 :: u 21 :: u 22 :: u 23 :: u 24 :: u 25 :: u 26 :: u 27 :: u 28 :: List.replicate 6 un).toArray, []⟩) (by kernel_rfl) ?_
    refine wp_seq ?_
    refine wp_seq ?_
    -- region 8
    refine wp_region_sure ⟨(.string s :: un :: pt q1 :: .bool false :: pt q4 :: iN .i64 16 :: .string s :: iN .i64 s.size :: .bool false :: un :: iN .i64 16 :: .bool false :: u 12 :: u 13 :: u 14 :: u 15 :: u 16 :: u 17 :: u 18 :: u 19 :: u 20 :: u 21 :: u 22 :: u 23 :: u 24 :: u 25 :: u 26 :: u 27 :: u 28 :: rarr (numS s % 65536 ^ 16) :: rarr P :: .bool true :: .bool false :: List.replicate 2 un).toArray, []⟩ (HA w [(q4, 30, rl (numS s % 65536 ^ 16)), (q1, 30, rl 0)]) [rarr (numS s % 65536 ^ 16), rarr P, .bool true, .bool false] (by kernel_rfl) (by kernel_rfl) (by kernel_rfl) (by kernel_rfl) (fun _ _ _ h => h) h13.drew ?_ ?_
    · refine AllSure.cons (OpSure.take (v := rarr (numS s % 65536 ^ 16)) (by kernel_rfl) (by kernel_rfl) (fun _ h => run_load_blk (by kernel_rfl) (h.get 0 rfl) Tryd.underlying30 rfl (info_rl _))) ?_
      refine AllSure.cons (sure_call (v := rarr P) (by kernel_rfl) (by kernel_rfl) enter38 HA.keep #[] (by kernel_rfl) (fun w' h' => rprime_any w')) ?_
      refine AllSure.cons (sure_call (v := .bool true) (by kernel_rfl) (by kernel_rfl) enter37 HA.keep #[rarr (numS s % 65536 ^ 16), rarr P] (by kernel_rfl) (fun w' h' => rless_yes (numS s % 65536 ^ 16) P (Nat.mod_lt _ (by decide)) (by decide) hP w')) ?_
      refine AllSure.cons (OpSure.take (v := .bool false) (by kernel_rfl) (by kernel_rfl) (fun _ _ => (by kernel_rfl))) ?_
      exact AllSure.nil
    intro w14 h15
    refine then_at (F := ⟨(.string s :: un :: pt q1 :: .bool false :: pt q4 :: iN .i64 16 :: .string s :: iN .i64 s.size :: .bool false :: un :: iN .i64 16 :: .bool false :: u 12 :: u 13 :: u 14 :: u 15 :: u 16 :: u 17 :: u 18 :: u 19 :: u 20 :: u 21 :: u 22 :: u 23 :: u 24 :: u 25 :: u 26 :: u 27 :: u 28 :: rarr (numS s % 65536 ^ 16) :: rarr P :: .bool true :: .bool false :: List.replicate 2 un).toArray, []⟩) (by kernel_rfl) ?_
    refine wp_cond_false (by kernel_rfl) ?_
    refine wp_skip ?_
    refine then_at (F := ⟨(.string s :: un :: pt q1 :: .bool false :: pt q4 :: iN .i64 16 :: .string s :: iN .i64 s.size :: .bool false :: un :: iN .i64 16 :: .bool false :: u 12 :: u 13 :: u 14 :: u 15 :: u 16 :: u 17 :: u 18 :: u 19 :: u 20 :: u 21 :: u 22 :: u 23 :: u 24 :: u 25 :: u 26 :: u 27 :: u 28 :: rarr (numS s % 65536 ^ 16) :: rarr P :: .bool true :: .bool false :: List.replicate 2 un).toArray, []⟩) (by kernel_rfl) ?_
    refine wp_seq ?_
    -- region 10
    refine wl_region ?_
    refine wl_load h15 0 rfl (by kernel_rfl) (by kernel_rfl) Tryd.underlying30 rfl (info_rl _) ?_
    refine wl_fill (c' := rl (numS s % 65536 ^ 16)) h15 1 rfl (by kernel_rfl) (by kernel_rfl) (by kernel_rfl) (rl_sz _ _) (info_rl _) (one_rl _) ?_
    intro w16 (h17 : HA w [(q4, 30, rl (numS s % 65536 ^ 16)), (q1, 30, rl (numS s % 65536 ^ 16))] w16)
    refine wl_val (.bool true) (by kernel_rfl) (by kernel_rfl) ?_
    refine wl_nil ?_
    refine then_at (F := ⟨(.string s :: un :: pt q1 :: .bool true :: pt q4 :: iN .i64 16 :: .string s :: iN .i64 s.size :: .bool false :: un :: iN .i64 16 :: .bool false :: u 12 :: u 13 :: u 14 :: u 15 :: u 16 :: u 17 :: u 18 :: u 19 :: u 20 :: u 21 :: u 22 :: u 23 :: u 24 :: u 25 :: u 26 :: u 27 :: u 28 :: rarr (numS s % 65536 ^ 16) :: rarr P :: .bool true :: .bool false :: un :: rarr (numS s % 65536 ^ 16) :: List.replicate 0 un).toArray, []⟩) (by kernel_rfl) ?_
    refine wp_ret ?_
    repeat first | refine then_ret ?_ | refine block_ret ?_
    exact bodyPost_ret (v := .tuple #[rarr (numS s % 65536 ^ 16), .bool true]) (res_cell_tmp (p := 2) (r := 3) (by kernel_rfl) (by kernel_rfl) (by kernel_rfl) (h17.get 1 rfl) Tryd.underlying30 rfl (info_rl _)) rfl ⟨rfl, h17.old⟩

set_option linter.unusedVariables false in
set_option maxRecDepth 100000 in
set_option maxHeartbeats 2000000 in
theorem rof_no (s : ByteArray) (hl : s.size = 32) (hP : ¬ numS s % 65536 ^ 16 < P) (w : World) : Calls Tryd.prog 12 #[.string s] w fun e w' => e = .returned (.tuple #[rarr 0, .bool false]) ∧ Below w.heap.size w w' := by
  have H0 := HA.start w
  go_enter Tryd.func12, Tryd.ntmps12
  refine wp_seq ?_
  -- region 0
  refine wl_region ?_
  refine wl_make H0 30 (by kernel_rfl) run_alloc30 ?_
  intro q1 w2 h3
  refine wl_val (.bool false) (by kernel_rfl) (by kernel_rfl) ?_
  refine wl_nil ?_
  refine then_at (F := ⟨(.string s :: un :: pt q1 :: .bool false :: List.replicate 31 un).toArray, []⟩) (by kernel_rfl) ?_
  refine wp_seq ?_
  refine wp_seq ?_
  -- region 1
  refine wl_region ?_
  refine wl_val (.string s) (by kernel_rfl) (by kernel_rfl) ?_
  refine wl_val (iN .i64 s.size) (by kernel_rfl) (run_len (s := s) (by kernel_rfl)) ?_
  refine wl_val (.bool false) (by kernel_rfl) (run_nei (k := .i64) (a := s.size) (b := 32) (by kernel_rfl) (by kernel_rfl) false (decide_eq_false (fun h => h hl))) ?_
  refine wl_nil ?_
  refine then_at (F := ⟨(.string s :: un :: pt q1 :: .bool false :: un :: un :: .string s :: iN .i64 s.size :: .bool false :: List.replicate 26 un).toArray, []⟩) (by kernel_rfl) ?_
  refine wp_cond_false (by kernel_rfl) ?_
  refine wp_skip ?_
  refine then_at (F := ⟨(.string s :: un :: pt q1 :: .bool false :: un :: un :: .string s :: iN .i64 s.size :: .bool false :: List.replicate 26 un).toArray, []⟩) (by kernel_rfl) ?_
  refine wp_seq ?_
  -- region 3
  refine wl_region ?_
  refine wl_make h3 30 (by kernel_rfl) run_alloc30 ?_
  intro q4 w5 h6
  refine wl_nil ?_
  refine then_at (F := ⟨(.string s :: un :: pt q1 :: .bool false :: pt q4 :: un :: .string s :: iN .i64 s.size :: .bool false :: List.replicate 26 un).toArray, []⟩) (by kernel_rfl) ?_
  refine wp_seq ?_
  refine wp_seq ?_
  -- region 4
  refine wl_region ?_
  refine wl_val (iN .i64 0) (by kernel_rfl) (by kernel_rfl) ?_
  refine wl_nil ?_
  refine then_at (F := ⟨(.string s :: un :: pt q1 :: .bool false :: pt q4 :: iN .i64 0 :: .string s :: iN .i64 s.size :: .bool false :: List.replicate 26 un).toArray, []⟩) (by kernel_rfl) ?_
  refine wp_block ?_
  refine wp_count (fun k A w' => ∃ u : Nat → Value, A = ⟨(.string s :: un :: pt q1 :: .bool false :: pt q4 :: iN .i64 k :: .string s :: iN .i64 s.size :: .bool false :: un :: u 10 :: u 11 :: u 12 :: u 13 :: u 14 :: u 15 :: u 16 :: u 17 :: u 18 :: u 19 :: u 20 :: u 21 :: u 22 :: u 23 :: u 24 :: u 25 :: u 26 :: u 27 :: u 28 :: List.replicate 6 un).toArray, []⟩ ∧ HA w [(q4, 30, rl (numS s % 65536 ^ k)), (q1, 30, rl 0)] w') 16 ?_ ?_ ?_
  · exact ⟨fun i => (([(10, undef), (11, undef), (12, undef), (13, undef), (14, undef), (15, undef), (16, undef), (17, undef), (18, undef), (19, undef), (20, undef), (21, undef), (22, undef), (23, undef), (24, undef), (25, undef), (26, undef), (27, undef), (28, undef)] : List (Nat × Value)).find? (·.1 == i)).elim undef (·.2), by kernel_rfl, (by rw [Nat.pow_zero, Nat.mod_one]; exact h6)⟩
  · rintro k hk _ w7 ⟨u, rfl, h8⟩
    refine wp_seq ?_
    refine wp_seq ?_
    -- region 5
    refine wl_region ?_
    refine wl_val (iN .i64 k) (by kernel_rfl) (by kernel_rfl) ?_
    refine wl_val (.bool true) (by kernel_rfl) (run_lss (k := .i64) (a := k) (b := 16) (by kernel_rfl) (by kernel_rfl) true (decide_eq_true hk)) ?_
    refine wl_nil ?_
    refine then_at (F := ⟨(.string s :: un :: pt q1 :: .bool false :: pt q4 :: iN .i64 k :: .string s :: iN .i64 s.size :: .bool false :: un :: iN .i64 k :: .bool true :: u 12 :: u 13 :: u 14 :: u 15 :: u 16 :: u 17 :: u 18 :: u 19 :: u 20 :: u 21 :: u 22 :: u 23 :: u 24 :: u 25 :: u 26 :: u 27 :: u 28 :: List.replicate 6 un).toArray, []⟩) (by kernel_rfl) ?_
    refine wp_cond_true (by kernel_rfl) ?_
    refine wp_skip ?_
    refine then_at (F := ⟨(.string s :: un :: pt q1 :: .bool false :: pt q4 :: iN .i64 k :: .string s :: iN .i64 s.size :: .bool false :: un :: iN .i64 k :: .bool true :: u 12 :: u 13 :: u 14 :: u 15 :: u 16 :: u 17 :: u 18 :: u 19 :: u 20 :: u 21 :: u 22 :: u 23 :: u 24 :: u 25 :: u 26 :: u 27 :: u 28 :: List.replicate 6 un).toArray, []⟩) (by kernel_rfl) ?_
    refine wp_seq ?_
    refine wp_block ?_
    -- region 7
    refine wp_region_ghost (fun _ : Nat → Nat => (⟨(.string s :: un :: pt q1 :: .bool false :: pt q4 :: iN .i64 k :: .string s :: iN .i64 s.size :: .bool false :: un :: iN .i64 k :: .bool true :: u 12 :: u 13 :: iN .i64 k :: .string s :: iN .i64 k :: iN .i64 (2 * k) :: iN .u8 (sb s (2 * k)) :: iN .u32 (sb s (2 * k)) :: .string s :: iN .i64 k :: iN .i64 (2 * k) :: iN .i64 ((2 * k) + 1) :: iN .u8 (sb s ((2 * k) + 1)) :: iN .u32 (sb s ((2 * k) + 1)) :: iN .u32 ((sb s ((2 * k) + 1)) * 2 ^ 8) :: iN .u32 ((sb s (2 * k)) ||| ((sb s ((2 * k) + 1)) * 2 ^ 8)) :: .pointer (some ⟨q4, k, none⟩) :: List.replicate 6 un).toArray, []⟩ : Act)) (GP w [(q4, 30, rl (numS s % 65536 ^ k)), (q1, 30, rl 0)] 15 0 q4 30 (rl (numS s % 65536 ^ (k + 1)))) [iN .i64 k, .string s, iN .i64 k, iN .i64 (2 * k), iN .u8 (sb s (2 * k)), iN .u32 (sb s (2 * k)), .string s, iN .i64 k, iN .i64 (2 * k), iN .i64 ((2 * k) + 1), iN .u8 (sb s ((2 * k) + 1)), iN .u32 (sb s ((2 * k) + 1)), iN .u32 ((sb s ((2 * k) + 1)) * 2 ^ 8), iN .u32 ((sb s (2 * k)) ||| ((sb s ((2 * k) + 1)) * 2 ^ 8)), .pointer (some ⟨q4, k, none⟩), undef] (by kernel_rfl) (by kernel_rfl) (by kernel_rfl) (by kernel_rfl) (fun _ _ _ _ h => h) (fun d hd => GP.start h8.drew (hd 15 (by decide))) ?_ ?_
    · refine AllGhost.cons (gp_plain (v := iN .i64 k) (by decide) (fun _ => by kernel_rfl) (fun _ => by kernel_rfl) (fun _ _ => (by kernel_rfl))) ?_
      refine AllGhost.cons (gp_plain (v := .string s) (by decide) (fun _ => by kernel_rfl) (fun _ => by kernel_rfl) (fun _ _ => (by kernel_rfl))) ?_
      refine AllGhost.cons (gp_plain (v := iN .i64 k) (by decide) (fun _ => by kernel_rfl) (fun _ => by kernel_rfl) (fun _ _ => (by kernel_rfl))) ?_
      refine AllGhost.cons (gp_plain (v := iN .i64 (2 * k)) (by decide) (fun _ => by kernel_rfl) (fun _ => by kernel_rfl) (fun _ _ => (run_mul (k := .i64) (a := 2) (b := k) (by kernel_rfl) (by kernel_rfl) (by simp only [top]; omega)))) ?_
      refine AllGhost.cons (gp_plain (v := iN .u8 (sb s (2 * k))) (by decide) (fun _ => by kernel_rfl) (fun _ => by kernel_rfl) (fun _ _ => (run_sidx (s := s) (a := 2 * k) (by kernel_rfl) (by kernel_rfl) (by omega)))) ?_
      refine AllGhost.cons (gp_plain (v := iN .u32 (sb s (2 * k))) (by decide) (fun _ => by kernel_rfl) (fun _ => by kernel_rfl) (fun _ _ => (run_conv (k := .u8) (a := sb s (2 * k)) .u32 Tryd.underlying5 Tryd.underlying22 (by kernel_rfl) (Nat.lt_trans (sb_lt s _) (by decide))))) ?_
      refine AllGhost.cons (gp_plain (v := .string s) (by decide) (fun _ => by kernel_rfl) (fun _ => by kernel_rfl) (fun _ _ => (by kernel_rfl))) ?_
      refine AllGhost.cons (gp_plain (v := iN .i64 k) (by decide) (fun _ => by kernel_rfl) (fun _ => by kernel_rfl) (fun _ _ => (by kernel_rfl))) ?_
      refine AllGhost.cons (gp_plain (v := iN .i64 (2 * k)) (by decide) (fun _ => by kernel_rfl) (fun _ => by kernel_rfl) (fun _ _ => (run_mul (k := .i64) (a := 2) (b := k) (by kernel_rfl) (by kernel_rfl) (by simp only [top]; omega)))) ?_
      refine AllGhost.cons (gp_plain (v := iN .i64 ((2 * k) + 1)) (by decide) (fun _ => by kernel_rfl) (fun _ => by kernel_rfl) (fun _ _ => (run_add (k := .i64) (a := 2 * k) (b := 1) (by kernel_rfl) (by kernel_rfl) (by simp only [top]; omega)))) ?_
      refine AllGhost.cons (gp_plain (v := iN .u8 (sb s ((2 * k) + 1))) (by decide) (fun _ => by kernel_rfl) (fun _ => by kernel_rfl) (fun _ _ => (run_sidx (s := s) (a := (2 * k) + 1) (by kernel_rfl) (by kernel_rfl) (by omega)))) ?_
      refine AllGhost.cons (gp_plain (v := iN .u32 (sb s ((2 * k) + 1))) (by decide) (fun _ => by kernel_rfl) (fun _ => by kernel_rfl) (fun _ _ => (run_conv (k := .u8) (a := sb s ((2 * k) + 1)) .u32 Tryd.underlying5 Tryd.underlying22 (by kernel_rfl) (Nat.lt_trans (sb_lt s _) (by decide))))) ?_
      refine AllGhost.cons (gp_plain (v := iN .u32 ((sb s ((2 * k) + 1)) * 2 ^ 8)) (by decide) (fun _ => by kernel_rfl) (fun _ => by kernel_rfl) (fun _ _ => (run_shl (k2 := .u64) (k := .u32) (a := sb s ((2 * k) + 1)) (b := 8) (by kernel_rfl) (by kernel_rfl) (by decide) (sb_shl_top s _)))) ?_
      refine AllGhost.cons (gp_plain (v := iN .u32 ((sb s (2 * k)) ||| ((sb s ((2 * k) + 1)) * 2 ^ 8))) (by decide) (fun _ => by kernel_rfl) (fun _ => by kernel_rfl) (fun _ _ => (run_or32 (a := sb s (2 * k)) (b := (sb s ((2 * k) + 1)) * 2 ^ 8) (by kernel_rfl) (by kernel_rfl) (Nat.lt_trans (sb_lt s _) (by decide)) (sb_shl s _)))) ?_
      refine AllGhost.cons (gp_plain (v := .pointer (some ⟨q4, k, none⟩)) (by decide) (fun _ => by kernel_rfl) (fun _ => by kernel_rfl) (fun _ _ => (run_addr_arr (q := q4) (a := k) Tryd.underlying30 (fun w => Tryd.sizeOf22 w) (by kernel_rfl) (by kernel_rfl) (by omega)))) ?_
      refine AllGhost.cons (gp_put (k := .u32) (z := (((sb s (2 * k)) ||| ((sb s ((2 * k) + 1)) * 2 ^ 8) : Nat) : Int)) (off := k) rfl (by rw [rl_size]; omega) (of_put s k hk) (fun w => Tryd.sizeOf22 w) (fun _ => by kernel_rfl) (fun _ => by kernel_rfl) (fun _ => by kernel_rfl) (fun _ => by kernel_rfl)) ?_
      exact AllGhost.nil
    intro _ w9 g10
    have h11 : HA w [(q4, 30, rl (numS s % 65536 ^ (k + 1))), (q1, 30, rl 0)] w9 := g10
    clear g10
    refine block_normal ?_
    refine then_at (F := ⟨(.string s :: un :: pt q1 :: .bool false :: pt q4 :: iN .i64 k :: .string s :: iN .i64 s.size :: .bool false :: un :: iN .i64 k :: .bool true :: u 12 :: u 13 :: iN .i64 k :: .string s :: iN .i64 k :: iN .i64 (2 * k) :: iN .u8 (sb s (2 * k)) :: iN .u32 (sb s (2 * k)) :: .string s :: iN .i64 k :: iN .i64 (2 * k) :: iN .i64 ((2 * k) + 1) :: iN .u8 (sb s ((2 * k) + 1)) :: iN .u32 (sb s ((2 * k) + 1)) :: iN .u32 ((sb s ((2 * k) + 1)) * 2 ^ 8) :: iN .u32 ((sb s (2 * k)) ||| ((sb s ((2 * k) + 1)) * 2 ^ 8)) :: .pointer (some ⟨q4, k, none⟩) :: List.replicate 6 un).toArray, []⟩) (by kernel_rfl) ?_
    -- region 6
    refine wl_region ?_
    refine wl_val (iN .i64 k) (by kernel_rfl) (by kernel_rfl) ?_
    refine wl_val (iN .i64 (k + 1)) (by kernel_rfl) (run_add (k := .i64) (a := k) (b := 1) (by kernel_rfl) (by kernel_rfl) (by simp only [top]; omega)) ?_
    refine wl_val (iN .i64 (k + 1)) (by kernel_rfl) (by kernel_rfl) ?_
    refine wl_nil ?_
    exact then_I ⟨fun i => (([(10, iN .i64 k), (11, .bool true), (12, iN .i64 k), (13, iN .i64 (k + 1)), (14, iN .i64 k), (15, .string s), (16, iN .i64 k), (17, iN .i64 (2 * k)), (18, iN .u8 (sb s (2 * k))), (19, iN .u32 (sb s (2 * k))), (20, .string s), (21, iN .i64 k), (22, iN .i64 (2 * k)), (23, iN .i64 ((2 * k) + 1)), (24, iN .u8 (sb s ((2 * k) + 1))), (25, iN .u32 (sb s ((2 * k) + 1))), (26, iN .u32 ((sb s ((2 * k) + 1)) * 2 ^ 8)), (27, iN .u32 ((sb s (2 * k)) ||| ((sb s ((2 * k) + 1)) * 2 ^ 8))), (28, .pointer (some ⟨q4, k, none⟩))] : List (Nat × Value)).find? (·.1 == i)).elim undef (·.2), by kernel_rfl, h11⟩
  · rintro _ w12 ⟨u, rfl, h13⟩
    refine wp_seq ?_
    refine wp_seq ?_
    -- region 5
    refine wl_region ?_
    refine wl_val (iN .i64 16) (by kernel_rfl) (by kernel_rfl) ?_
    refine wl_val (.bool false) (by kernel_rfl) (run_lss (k := .i64) (a := 16) (b := 16) (by kernel_rfl) (by kernel_rfl) false (by decide)) ?_
    refine wl_nil ?_
    refine then_at (F := ⟨(.string s :: un :: pt q1 :: .bool false :: pt q4 :: iN .i64 16 :: .string s :: iN .i64 s.size :: .bool false :: un :: iN .i64 16 :: .bool false :: u 12 :: u 13 :: u 14 :: u 15 :: u 16 :: u 17 :: u 18 :: u 19 :: u 20 :: u 21 :: u 22 :: u 23 :: u 24 :: u 25 :: u 26 :: u 27 :: u 28 :: List.replicate 6 un).toArray, []⟩) (by kernel_rfl) ?_
    refine wp_cond_false (by kernel_rfl) ?_
    refine wp_exit ?_
    repeat first | refine then_exit ?_ | refine block_exit ?_ | refine block_exit_ne (by decide) ?_
    refine then_at (F := ⟨(.string s :: un :: pt q1 :: .bool false :: pt q4 :: iN .i64 16 :: .string s :: iN .i64 s.size :: .bool false :: un :: iN .i64 16 :: .bool false :: u 12 :: u 13 :: u 14 :: u 15 :: u 16 :: u 17 :: u 18 :: u 19 :: u 20 :: u 21 :: u 22 :: u 23 :: u 24 :: u 25 :: u 26 :: u 27 :: u 28 :: List.replicate 6 un).toArray, []⟩) (by kernel_rfl) ?_
    refine wp_seq ?_
    refine wp_seq ?_
    -- region 8
    refine wp_region_sure ⟨(.string s :: un :: pt q1 :: .bool false :: pt q4 :: iN .i64 16 :: .string s :: iN .i64 s.size :: .bool false :: un :: iN .i64 16 :: .bool false :: u 12 :: u 13 :: u 14 :: u 15 :: u 16 :: u 17 :: u 18 :: u 19 :: u 20 :: u 21 :: u 22 :: u 23 :: u 24 :: u 25 :: u 26 :: u 27 :: u 28 :: rarr (numS s % 65536 ^ 16) :: rarr P :: .bool false :: .bool true :: List.replicate 2 un).toArray, []⟩ (HA w [(q4, 30, rl (numS s % 65536 ^ 16)), (q1, 30, rl 0)]) [rarr (numS s % 65536 ^ 16), rarr P, .bool false, .bool true] (by kernel_rfl) (by kernel_rfl) (by kernel_rfl) (by kernel_rfl) (fun _ _ _ h => h) h13.drew ?_ ?_
    · refine AllSure.cons (OpSure.take (v := rarr (numS s % 65536 ^ 16)) (by kernel_rfl) (by kernel_rfl) (fun _ h => run_load_blk (by kernel_rfl) (h.get 0 rfl) Tryd.underlying30 rfl (info_rl _))) ?_
      refine AllSure.cons (sure_call (v := rarr P) (by kernel_rfl) (by kernel_rfl) enter38 HA.keep #[] (by kernel_rfl) (fun w' h' => rprime_any w')) ?_
      refine AllSure.cons (sure_call (v := .bool false) (by kernel_rfl) (by kernel_rfl) enter37 HA.keep #[rarr (numS s % 65536 ^ 16), rarr P] (by kernel_rfl) (fun w' h' => rless_no (numS s % 65536 ^ 16) P (Nat.mod_lt _ (by decide)) (by decide) hP w')) ?_
      refine AllSure.cons (OpSure.take (v := .bool true) (by kernel_rfl) (by kernel_rfl) (fun _ _ => (by kernel_rfl))) ?_
      exact AllSure.nil
    intro w14 h15
    refine then_at (F := ⟨(.string s :: un :: pt q1 :: .bool false :: pt q4 :: iN .i64 16 :: .string s :: iN .i64 s.size :: .bool false :: un :: iN .i64 16 :: .bool false :: u 12 :: u 13 :: u 14 :: u 15 :: u 16 :: u 17 :: u 18 :: u 19 :: u 20 :: u 21 :: u 22 :: u 23 :: u 24 :: u 25 :: u 26 :: u 27 :: u 28 :: rarr (numS s % 65536 ^ 16) :: rarr P :: .bool false :: .bool true :: List.replicate 2 un).toArray, []⟩) (by kernel_rfl) ?_
    refine wp_cond_true (by kernel_rfl) ?_
    refine wp_seq ?_
    -- region 9
    refine wl_region ?_
    refine wl_val (rarr 0) (by kernel_rfl) run_build0 ?_
    refine wl_fill (c' := rl 0) h15 1 rfl (by kernel_rfl) (by kernel_rfl) (by kernel_rfl) (rl_sz _ _) (info_rl _) (one_rl _) ?_
    intro w16 (h17 : HA w [(q4, 30, rl (numS s % 65536 ^ 16)), (q1, 30, rl 0)] w16)
    refine wl_val (.bool false) (by kernel_rfl) (by kernel_rfl) ?_
    refine wl_nil ?_
    refine then_at (F := ⟨(.string s :: un :: pt q1 :: .bool false :: pt q4 :: iN .i64 16 :: .string s :: iN .i64 s.size :: .bool false :: un :: iN .i64 16 :: .bool false :: u 12 :: u 13 :: u 14 :: u 15 :: u 16 :: u 17 :: u 18 :: u 19 :: u 20 :: u 21 :: u 22 :: u 23 :: u 24 :: u 25 :: u 26 :: u 27 :: u 28 :: rarr (numS s % 65536 ^ 16) :: rarr P :: .bool false :: .bool true :: rarr 0 :: List.replicate 1 un).toArray, []⟩) (by kernel_rfl) ?_
    refine wp_ret ?_
    repeat first | refine then_ret ?_ | refine block_ret ?_
    exact bodyPost_ret (v := .tuple #[rarr 0, .bool false]) (res_cell_tmp (p := 2) (r := 3) (by kernel_rfl) (by kernel_rfl) (by kernel_rfl) (h17.get 1 rfl) Tryd.underlying30 rfl (info_rl _)) rfl ⟨rfl, h17.old⟩

set_option linter.unusedVariables false in
set_option maxRecDepth 100000 in
set_option maxHeartbeats 2000000 in
theorem rof_len (s : ByteArray) (hl : s.size ≠ 32) (w : World) : Calls Tryd.prog 12 #[.string s] w fun e w' => e = .returned (.tuple #[rarr 0, .bool false]) ∧ Below w.heap.size w w' := by
  have H0 := HA.start w
  go_enter Tryd.func12, Tryd.ntmps12
  refine wp_seq ?_
  -- region 0
  refine wl_region ?_
  refine wl_make H0 30 (by kernel_rfl) run_alloc30 ?_
  intro q1 w2 h3
  refine wl_val (.bool false) (by kernel_rfl) (by kernel_rfl) ?_
  refine wl_nil ?_
  refine then_at (F := ⟨(.string s :: un :: pt q1 :: .bool false :: List.replicate 31 un).toArray, []⟩) (by kernel_rfl) ?_
  refine wp_seq ?_
  refine wp_seq ?_
  -- region 1
  refine wl_region ?_
  refine wl_val (.string s) (by kernel_rfl) (by kernel_rfl) ?_
  refine wl_val (iN .i64 s.size) (by kernel_rfl) (run_len (s := s) (by kernel_rfl)) ?_
  refine wl_val (.bool true) (by kernel_rfl) (run_nei (k := .i64) (a := s.size) (b := 32) (by kernel_rfl) (by kernel_rfl) true (decide_eq_true hl)) ?_
  refine wl_nil ?_
  refine then_at (F := ⟨(.string s :: un :: pt q1 :: .bool false :: un :: un :: .string s :: iN .i64 s.size :: .bool true :: List.replicate 26 un).toArray, []⟩) (by kernel_rfl) ?_
  refine wp_cond_true (by kernel_rfl) ?_
  refine wp_seq ?_
  -- region 2
  refine wl_region ?_
  refine wl_val (rarr 0) (by kernel_rfl) run_build0 ?_
  refine wl_fill (c' := rl 0) h3 0 rfl (by kernel_rfl) (by kernel_rfl) (by kernel_rfl) (rl_sz _ _) (info_rl _) (one_rl _) ?_
  intro w4 (h5 : HA w [(q1, 30, rl 0)] w4)
  refine wl_val (.bool false) (by kernel_rfl) (by kernel_rfl) ?_
  refine wl_nil ?_
  refine then_at (F := ⟨(.string s :: un :: pt q1 :: .bool false :: un :: un :: .string s :: iN .i64 s.size :: .bool true :: rarr 0 :: List.replicate 25 un).toArray, []⟩) (by kernel_rfl) ?_
  refine wp_ret ?_
  repeat first | refine then_ret ?_ | refine block_ret ?_
  exact bodyPost_ret (v := .tuple #[rarr 0, .bool false]) (res_cell_tmp (p := 2) (r := 3) (by kernel_rfl) (by kernel_rfl) (by kernel_rfl) (h5.get 0 rfl) Tryd.underlying30 rfl (info_rl _)) rfl ⟨rfl, h5.old⟩
end Go.Proofs.YtbmfmamhidccbaaDoor
