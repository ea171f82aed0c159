/-
  words: the number of at most 32 bytes.
-/
import Derived.Test.YtdblnbcclfenkaaDoorTxt
namespace Go.Proofs.YtdblnbcclfenkaaDoor
open Go.RowKit Num

theorem sb_shl64 (s : ByteArray) (k : Nat) : sb s k * 2 ^ (8 * (k % 8)) < 18446744073709551616 := by
  have h1 : 2 ^ (8 * (k % 8)) ≤ 2 ^ 56 := Nat.pow_le_pow_right (by decide) (by omega)
  have h2 : (2 : Nat) ^ 56 = 72057594037927936 := by decide
  have h3 := Nat.mul_le_mul (show sb s k ≤ 255 by have := sb_lt s k; omega) h1
  omega
theorem or_low (z x r : Nat) (hz : z < 2 ^ r) : z ||| x * 2 ^ r = z + x * 2 ^ r := by
  rw [Nat.or_comm, Nat.mul_comm, ← Nat.two_pow_add_eq_or_of_lt hz, Nat.add_comm]
theorem word_put (s : ByteArray) (k : Nat) (hk : k < 32) : (digs K 4 (numS s % 256 ^ k)).set (k / 8) (numS s % 256 ^ k / K ^ (k / 8) % K ||| sb s k * 2 ^ (8 * (k % 8))) = digs K 4 (numS s % 256 ^ (k + 1)) := by
  have h := byte_put (numS s % 256 ^ k) k (sb s k) (Nat.mod_lt _ (Nat.pow_pos (by decide))) hk (sb_lt s k)
  rw [or_low _ _ _ h.2, h.1, mod_step 256 (numS s) k]
  rfl

set_option linter.unusedVariables false in
set_option maxRecDepth 100000 in
set_option maxHeartbeats 2000000 in
theorem words_any (s : ByteArray) (hs : s.size ≤ 32) (w : World) :
    Calls Tryd.prog 27 #[.string s] w fun e w' => e = .returned (arr (numS s)) ∧ Below w.heap.size w w' := by
  have H0 := HA.start w
  go_enter Tryd.func27, Tryd.ntmps27
  refine wp_seq ?_
  -- region 0
  refine wl_region ?_
  refine wl_make H0 34 (by kernel_rfl) run_alloc34 ?_
  intro q1 w2 h3
  refine wl_nil ?_
  refine then_at (F := ⟨(.string s :: un :: pt q1 :: List.replicate 23 un).toArray, []⟩) (by kernel_rfl) ?_
  refine wp_seq ?_
  -- region 1
  refine wl_region ?_
  refine wl_make h3 34 (by kernel_rfl) run_alloc34 ?_
  intro q4 w5 h6
  refine wl_nil ?_
  refine then_at (F := ⟨(.string s :: un :: pt q1 :: pt q4 :: List.replicate 22 un).toArray, []⟩) (by kernel_rfl) ?_
  refine wp_seq ?_
  refine wp_seq ?_
  -- region 2
  refine wl_region ?_
  refine wl_val (.string s) (by kernel_rfl) (by kernel_rfl) ?_
  refine wl_val (iN .i64 s.size) (by kernel_rfl) (run_len (s := s) (by kernel_rfl)) ?_
  refine wl_val (iN .i64 0) (by kernel_rfl) (by kernel_rfl) ?_
  refine wl_nil ?_
  refine then_at (F := ⟨(.string s :: un :: pt q1 :: pt q4 :: un :: .string s :: iN .i64 s.size :: iN .i64 0 :: List.replicate 18 un).toArray, []⟩) (by kernel_rfl) ?_
  refine wp_block ?_
  refine wp_count (fun k A w' => ∃ u7 : Nat → Value, A = ⟨(.string s :: un :: pt q1 :: pt q4 :: u7 4 :: .string s :: iN .i64 s.size :: iN .i64 k :: u7 8 :: u7 9 :: u7 10 :: u7 11 :: u7 12 :: u7 13 :: u7 14 :: u7 15 :: u7 16 :: u7 17 :: u7 18 :: u7 19 :: u7 20 :: u7 21 :: u7 22 :: u7 23 :: u7 24 :: List.replicate 1 un).toArray, []⟩ ∧ HA w [(q4, 34, el (numS s % 256 ^ k)), (q1, 34, el 0)] w') s.size ?_ ?_ ?_
  · exact ⟨fun ii => (([(4, undef), (8, undef), (9, undef), (10, undef), (11, undef), (12, undef), (13, undef), (14, undef), (15, undef), (16, undef), (17, undef), (18, undef), (19, undef), (20, undef), (21, undef), (22, undef), (23, undef), (24, undef)] : List (Nat × Value)).find? (·.1 == ii)).elim undef (·.2), by kernel_rfl, (by rw [Nat.pow_zero, Nat.mod_one]; exact h6)⟩
  · rintro k hk _ w8 ⟨u7, rfl, h9⟩
    refine wp_seq ?_
    -- region 3
    refine wl_region ?_
    refine wl_val (.bool true) (by kernel_rfl) (run_lss (k := .i64) (a := k) (b := s.size) (by kernel_rfl) (by kernel_rfl) true (decide_eq_true hk)) ?_
    refine wl_nil ?_
    refine then_at (F := ⟨(.string s :: un :: pt q1 :: pt q4 :: u7 4 :: .string s :: iN .i64 s.size :: iN .i64 k :: .bool true :: u7 9 :: u7 10 :: u7 11 :: u7 12 :: u7 13 :: u7 14 :: u7 15 :: u7 16 :: u7 17 :: u7 18 :: u7 19 :: u7 20 :: u7 21 :: u7 22 :: u7 23 :: u7 24 :: List.replicate 1 un).toArray, []⟩) (by kernel_rfl) ?_
    refine wp_seq ?_
    refine wp_cond_true (by kernel_rfl) ?_
    refine wp_skip ?_
    refine then_at (F := ⟨(.string s :: un :: pt q1 :: pt q4 :: u7 4 :: .string s :: iN .i64 s.size :: iN .i64 k :: .bool true :: u7 9 :: u7 10 :: u7 11 :: u7 12 :: u7 13 :: u7 14 :: u7 15 :: u7 16 :: u7 17 :: u7 18 :: u7 19 :: u7 20 :: u7 21 :: u7 22 :: u7 23 :: u7 24 :: List.replicate 1 un).toArray, []⟩) (by kernel_rfl) ?_
    refine wp_seq ?_
    refine wp_block ?_
    refine wp_seq ?_
    -- region 4
    refine wl_region ?_
    refine wl_val (iN .i64 k) (by kernel_rfl) (by kernel_rfl) ?_
    refine wl_val (iN .i64 k) (by kernel_rfl) (by kernel_rfl) ?_
    refine wl_nil ?_
    refine then_at (F := ⟨(.string s :: un :: pt q1 :: pt q4 :: iN .i64 k :: .string s :: iN .i64 s.size :: iN .i64 k :: .bool true :: iN .i64 k :: u7 10 :: u7 11 :: u7 12 :: u7 13 :: u7 14 :: u7 15 :: u7 16 :: u7 17 :: u7 18 :: u7 19 :: u7 20 :: u7 21 :: u7 22 :: u7 23 :: u7 24 :: List.replicate 1 un).toArray, []⟩) (by kernel_rfl) ?_
    -- region 5
    refine wp_region_ghost (fun _ : Nat → Nat => (⟨(.string s :: un :: pt q1 :: pt q4 :: iN .i64 k :: .string s :: iN .i64 s.size :: iN .i64 k :: .bool true :: iN .i64 k :: iN .i64 k :: iN .i64 (k / 8) :: .pointer (some ⟨q4, k / 8, none⟩) :: iN .u64 ((numS s % 256 ^ k) / K ^ (k / 8) % K) :: .string s :: iN .i64 k :: iN .u8 (sb s k) :: iN .u64 (sb s k) :: iN .i64 k :: iN .i64 (k % 8) :: iN .i64 (8 * (k % 8)) :: iN .u64 ((sb s k) * 2 ^ (8 * (k % 8))) :: iN .u64 (((numS s % 256 ^ k) / K ^ (k / 8) % K) ||| ((sb s k) * 2 ^ (8 * (k % 8)))) :: .pointer (some ⟨q4, k / 8, none⟩) :: u7 24 :: List.replicate 1 un).toArray, []⟩ : Act)) (GF w [(q4, 34, el (numS s % 256 ^ k)), (q1, 34, el 0)] 14 3 0 q4 34 (el (numS s % 256 ^ (k + 1)))) [iN .i64 k, iN .i64 (k / 8), .pointer (some ⟨q4, k / 8, none⟩), iN .u64 ((numS s % 256 ^ k) / K ^ (k / 8) % K), .string s, iN .i64 k, iN .u8 (sb s k), iN .u64 (sb s k), iN .i64 k, iN .i64 (k % 8), iN .i64 (8 * (k % 8)), iN .u64 ((sb s k) * 2 ^ (8 * (k % 8))), iN .u64 (((numS s % 256 ^ k) / K ^ (k / 8) % K) ||| ((sb s k) * 2 ^ (8 * (k % 8)))), .pointer (some ⟨q4, k / 8, none⟩), undef] (by kernel_rfl) (by kernel_rfl) (by kernel_rfl) (by kernel_rfl) (fun _ _ _ _ h => h) (fun d hd => GF.start h9.drew (hd 14 (by decide))) ?_ ?_
    · refine AllGhost.cons (gf_plain (v := iN .i64 k) (by decide) (fun _ => by kernel_rfl) (fun _ => by kernel_rfl) (fun _ _ => (by kernel_rfl))) ?_
      refine AllGhost.cons (gf_plain (v := iN .i64 (k / 8)) (by decide) (fun _ => by kernel_rfl) (fun _ => by kernel_rfl) (fun _ _ => (run_quo (k := .i64) (a := k) (b := 8) (by kernel_rfl) (by kernel_rfl) (by omega) (by simp only [top]; omega)))) ?_
      refine AllGhost.cons (gf_plain (v := .pointer (some ⟨q4, k / 8, none⟩)) (by decide) (fun _ => by kernel_rfl) (fun _ => by kernel_rfl) (fun _ _ => (run_addr_arr (q := q4) (a := k / 8) Tryd.underlying34 (fun w => Tryd.sizeOf32 w) (by kernel_rfl) (by kernel_rfl) (by omega)))) ?_
      refine AllGhost.cons (gf_cell (v := iN .u64 ((numS s % 256 ^ k) / K ^ (k / 8) % K)) 0 rfl (by decide) (k / 8) (el_get (numS s % 256 ^ k) (k / 8) (by omega)) (fun w => Tryd.isAgg32 w) (fun _ => by kernel_rfl) (fun _ => by kernel_rfl) (fun _ => by kernel_rfl)) ?_
      refine AllGhost.cons (gf_plain (v := .string s) (by decide) (fun _ => by kernel_rfl) (fun _ => by kernel_rfl) (fun _ _ => (by kernel_rfl))) ?_
      refine AllGhost.cons (gf_plain (v := iN .i64 k) (by decide) (fun _ => by kernel_rfl) (fun _ => by kernel_rfl) (fun _ _ => (by kernel_rfl))) ?_
      refine AllGhost.cons (gf_plain (v := iN .u8 (sb s k)) (by decide) (fun _ => by kernel_rfl) (fun _ => by kernel_rfl) (fun _ _ => (run_sidx (s := s) (a := k) (by kernel_rfl) (by kernel_rfl) hk))) ?_
      refine AllGhost.cons (gf_plain (v := iN .u64 (sb s k)) (by decide) (fun _ => by kernel_rfl) (fun _ => by kernel_rfl) (fun _ _ => (run_conv (k := .u8) (a := sb s k) .u64 Tryd.underlying5 Tryd.underlying32 (by kernel_rfl) (Nat.lt_trans (sb_lt s _) (by decide))))) ?_
      refine AllGhost.cons (gf_plain (v := iN .i64 k) (by decide) (fun _ => by kernel_rfl) (fun _ => by kernel_rfl) (fun _ _ => (by kernel_rfl))) ?_
      refine AllGhost.cons (gf_plain (v := iN .i64 (k % 8)) (by decide) (fun _ => by kernel_rfl) (fun _ => by kernel_rfl) (fun _ _ => (run_rem (k := .i64) (a := k) (b := 8) (by kernel_rfl) (by kernel_rfl) (by omega)))) ?_
      refine AllGhost.cons (gf_plain (v := iN .i64 (8 * (k % 8))) (by decide) (fun _ => by kernel_rfl) (fun _ => by kernel_rfl) (fun _ _ => (run_mul (k := .i64) (a := 8) (b := k % 8) (by kernel_rfl) (by kernel_rfl) (by simp only [top]; omega)))) ?_
      refine AllGhost.cons (gf_plain (v := iN .u64 ((sb s k) * 2 ^ (8 * (k % 8)))) (by decide) (fun _ => by kernel_rfl) (fun _ => by kernel_rfl) (fun _ _ => (run_shl (k2 := .i64) (k := .u64) (a := sb s k) (b := 8 * (k % 8)) (by kernel_rfl) (by kernel_rfl) (by show 8 * (k % 8) ≤ 64; omega) (sb_shl64 s k)))) ?_
      refine AllGhost.cons (gf_plain (v := iN .u64 (((numS s % 256 ^ k) / K ^ (k / 8) % K) ||| ((sb s k) * 2 ^ (8 * (k % 8))))) (by decide) (fun _ => by kernel_rfl) (fun _ => by kernel_rfl) (fun _ _ => (run_or64 (a := (numS s % 256 ^ k) / K ^ (k / 8) % K) (b := (sb s k) * 2 ^ (8 * (k % 8))) (by kernel_rfl) (by kernel_rfl) (Nat.mod_lt _ (by decide)) (sb_shl64 s k)))) ?_
      refine AllGhost.cons (gf_plain (v := .pointer (some ⟨q4, k / 8, none⟩)) (by decide) (fun _ => by kernel_rfl) (fun _ => by kernel_rfl) (fun _ _ => (run_addr_arr (q := q4) (a := k / 8) Tryd.underlying34 (fun w => Tryd.sizeOf32 w) (by kernel_rfl) (by kernel_rfl) (by omega)))) ?_
      refine AllGhost.cons (gf_put (k := .u64) (z := ((((numS s % 256 ^ k) / K ^ (k / 8) % K) ||| ((sb s k) * 2 ^ (8 * (k % 8))) : Nat) : Int)) (off := k / 8) rfl (by rw [el_size]; omega) (el_put _ _ _ _ (word_put s k (by omega))) (fun w => Tryd.sizeOf32 w) (fun _ => by kernel_rfl) (fun _ => by kernel_rfl) (fun _ => by kernel_rfl) (fun _ => by kernel_rfl) (by decide) (by kernel_rfl)) ?_
      exact AllGhost.nil
    intro _ w10 g11
    have h12 : HA w [(q4, 34, el (numS s % 256 ^ (k + 1))), (q1, 34, el 0)] w10 := g11.held
    clear g11
    refine block_normal ?_
    refine then_at (F := ⟨(.string s :: un :: pt q1 :: pt q4 :: iN .i64 k :: .string s :: iN .i64 s.size :: iN .i64 k :: .bool true :: iN .i64 k :: iN .i64 k :: iN .i64 (k / 8) :: .pointer (some ⟨q4, k / 8, none⟩) :: iN .u64 ((numS s % 256 ^ k) / K ^ (k / 8) % K) :: .string s :: iN .i64 k :: iN .u8 (sb s k) :: iN .u64 (sb s k) :: iN .i64 k :: iN .i64 (k % 8) :: iN .i64 (8 * (k % 8)) :: iN .u64 ((sb s k) * 2 ^ (8 * (k % 8))) :: iN .u64 (((numS s % 256 ^ k) / K ^ (k / 8) % K) ||| ((sb s k) * 2 ^ (8 * (k % 8)))) :: .pointer (some ⟨q4, k / 8, none⟩) :: u7 24 :: List.replicate 1 un).toArray, []⟩) (by kernel_rfl) ?_
    -- region 6
    refine wl_region ?_
    refine wl_val (iN .i64 (k + 1)) (by kernel_rfl) (run_add (k := .i64) (a := k) (b := 1) (by kernel_rfl) (by kernel_rfl) (by simp only [top]; omega)) ?_
    refine wl_val (iN .i64 (k + 1)) (by kernel_rfl) (by kernel_rfl) ?_
    refine wl_nil ?_
    exact then_I ⟨fun ii => (([(4, iN .i64 k), (8, .bool true), (9, iN .i64 k), (10, iN .i64 k), (11, iN .i64 (k / 8)), (12, .pointer (some ⟨q4, k / 8, none⟩)), (13, iN .u64 ((numS s % 256 ^ k) / K ^ (k / 8) % K)), (14, .string s), (15, iN .i64 k), (16, iN .u8 (sb s k)), (17, iN .u64 (sb s k)), (18, iN .i64 k), (19, iN .i64 (k % 8)), (20, iN .i64 (8 * (k % 8))), (21, iN .u64 ((sb s k) * 2 ^ (8 * (k % 8)))), (22, iN .u64 (((numS s % 256 ^ k) / K ^ (k / 8) % K) ||| ((sb s k) * 2 ^ (8 * (k % 8))))), (23, .pointer (some ⟨q4, k / 8, none⟩)), (24, iN .i64 (k + 1))] : List (Nat × Value)).find? (·.1 == ii)).elim undef (·.2), by kernel_rfl, h12⟩
  · rintro _ w13 ⟨u7, rfl, h14⟩
    refine wp_seq ?_
    -- region 3
    refine wl_region ?_
    refine wl_val (.bool false) (by kernel_rfl) (run_lss (k := .i64) (a := s.size) (b := s.size) (by kernel_rfl) (by kernel_rfl) false (decide_eq_false (Nat.lt_irrefl _))) ?_
    refine wl_nil ?_
    refine then_at (F := ⟨(.string s :: un :: pt q1 :: pt q4 :: u7 4 :: .string s :: iN .i64 s.size :: iN .i64 s.size :: .bool false :: u7 9 :: u7 10 :: u7 11 :: u7 12 :: u7 13 :: u7 14 :: u7 15 :: u7 16 :: u7 17 :: u7 18 :: u7 19 :: u7 20 :: u7 21 :: u7 22 :: u7 23 :: u7 24 :: List.replicate 1 un).toArray, []⟩) (by kernel_rfl) ?_
    refine wp_seq ?_
    refine wp_cond_false (by kernel_rfl) ?_
    refine wp_exit ?_
    repeat first | refine then_exit ?_ | refine block_exit ?_ | refine block_exit_ne (by decide) ?_
    have h15 : HA w [(q4, 34, el (numS s)), (q1, 34, el 0)] w13 := by have e4 := Nat.mod_eq_of_lt (numS_lt s); rw [e4] at h14; exact h14
    refine then_at (F := ⟨(.string s :: un :: pt q1 :: pt q4 :: u7 4 :: .string s :: iN .i64 s.size :: iN .i64 s.size :: .bool false :: u7 9 :: u7 10 :: u7 11 :: u7 12 :: u7 13 :: u7 14 :: u7 15 :: u7 16 :: u7 17 :: u7 18 :: u7 19 :: u7 20 :: u7 21 :: u7 22 :: u7 23 :: u7 24 :: List.replicate 1 un).toArray, []⟩) (by kernel_rfl) ?_
    refine wp_seq ?_
    -- region 7
    refine wl_region ?_
    refine wl_load h15 0 rfl (by kernel_rfl) (by kernel_rfl) Tryd.underlying34 rfl info34 ?_
    refine wl_fill (c' := el (numS s)) h15 1 rfl (by kernel_rfl) (by kernel_rfl) (by kernel_rfl) (el_sz _ _) info34 (one_cl _ _) ?_
    intro w16 (h17 : HA w [(q4, 34, el (numS s)), (q1, 34, el (numS s))] w16)
    refine wl_nil ?_
    refine then_at (F := ⟨(.string s :: un :: pt q1 :: pt q4 :: u7 4 :: .string s :: iN .i64 s.size :: iN .i64 s.size :: .bool false :: u7 9 :: u7 10 :: u7 11 :: u7 12 :: u7 13 :: u7 14 :: u7 15 :: u7 16 :: u7 17 :: u7 18 :: u7 19 :: u7 20 :: u7 21 :: u7 22 :: u7 23 :: u7 24 :: arr (numS s) :: List.replicate 0 un).toArray, []⟩) (by kernel_rfl) ?_
    refine wp_ret ?_
    repeat first | refine then_ret ?_ | refine block_ret ?_
    exact bodyPost_ret (v := arr (numS s)) (res_cell (p := 2) (by kernel_rfl) (by kernel_rfl) (h17.get 1 rfl) Tryd.underlying34 rfl info34) rfl ⟨rfl, h17.old⟩
end Go.Proofs.YtdblnbcclfenkaaDoor
