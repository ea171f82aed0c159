/-
  The reference's exponent, Power and Inv.
-/
import Derived.Test.YtbmfmamhidccbaaDoorRefG
namespace Go.Proofs.YtbmfmamhidccbaaDoor
open Go.RowKit Num

set_option maxRecDepth 100000 in
theorem rexp_any (f l : UInt8) (w : World) :
    Calls Tryd.prog 47 #[iN .u8 f.toNat, iN .u8 l.toNat] w fun e w' => e = .returned (.string ⟨(endsL f l).toArray⟩) ∧ Below w.heap.size w w' := by
  have H0 := HA.start w
  go_enter Tryd.func47, Tryd.ntmps47
  refine wp_seq ?_
  -- region 0
  refine wl_region ?_
  refine wl_val (.string { data := #[] }) (by kernel_rfl) (by kernel_rfl) ?_
  refine wl_nil ?_
  refine then_at (F := ⟨(iN .u8 f.toNat :: iN .u8 l.toNat :: un :: un :: .string { data := #[] } :: List.replicate 18 un).toArray, []⟩) (by kernel_rfl) ?_
  refine wp_seq ?_
  -- region 1
  refine wl_region ?_
  refine wl_mkslice (n := 32) H0 5 (by kernel_rfl) (run_mk 32 (by decide) (by kernel_rfl) (by kernel_rfl)) ?_
  intro q1 w2 h3
  refine wl_val (.slice (some ⟨q1, 0, none⟩) 32 32) (by kernel_rfl) (by kernel_rfl) ?_
  refine wl_nil ?_
  refine then_at (F := ⟨(iN .u8 f.toNat :: iN .u8 l.toNat :: un :: un :: .string { data := #[] } :: .slice (some ⟨q1, 0, none⟩) 32 32 :: un :: .slice (some ⟨q1, 0, none⟩) 32 32 :: List.replicate 15 un).toArray, []⟩) (by kernel_rfl) ?_
  refine wp_seq ?_
  refine wp_seq ?_
  -- region 2
  refine wl_region ?_
  refine wl_val (iN .i64 0) (by kernel_rfl) (by kernel_rfl) ?_
  refine wl_nil ?_
  refine then_at (F := ⟨(iN .u8 f.toNat :: iN .u8 l.toNat :: un :: un :: .string { data := #[] } :: .slice (some ⟨q1, 0, none⟩) 32 32 :: iN .i64 0 :: .slice (some ⟨q1, 0, none⟩) 32 32 :: List.replicate 15 un).toArray, []⟩) (by kernel_rfl) ?_
  refine wp_block ?_
  refine wp_count (fun k A w' => ∃ u : Nat → Value, A = ⟨(iN .u8 f.toNat :: iN .u8 l.toNat :: un :: un :: .string { data := #[] } :: .slice (some ⟨q1, 0, none⟩) 32 32 :: iN .i64 k :: .slice (some ⟨q1, 0, none⟩) 32 32 :: u 8 :: u 9 :: u 10 :: u 11 :: u 12 :: u 13 :: u 14 :: List.replicate 8 un).toArray, []⟩ ∧ HA w [(q1, 5, ff k)] w') 32 ?_ ?_ ?_
  · exact ⟨fun ii => (([(8, undef), (9, undef), (10, undef), (11, undef), (12, undef), (13, undef), (14, undef)] : List (Nat × Value)).find? (·.1 == ii)).elim undef (·.2), by kernel_rfl, (by rw [← (by kernel_rfl : zr 32 = ff 0)]; exact h3)⟩
  · rintro k hk _ w4 ⟨u, rfl, h5⟩
    refine wp_seq ?_
    refine wp_seq ?_
    -- region 3
    refine wl_region ?_
    refine wl_val (iN .i64 k) (by kernel_rfl) (by kernel_rfl) ?_
    refine wl_val (.bool true) (by kernel_rfl) (run_lss (k := .i64) (a := k) (b := 32) (by kernel_rfl) (by kernel_rfl) true (decide_eq_true hk)) ?_
    refine wl_nil ?_
    refine then_at (F := ⟨(iN .u8 f.toNat :: iN .u8 l.toNat :: un :: un :: .string { data := #[] } :: .slice (some ⟨q1, 0, none⟩) 32 32 :: iN .i64 k :: .slice (some ⟨q1, 0, none⟩) 32 32 :: iN .i64 k :: .bool true :: u 10 :: u 11 :: u 12 :: u 13 :: u 14 :: List.replicate 8 un).toArray, []⟩) (by kernel_rfl) ?_
    refine wp_cond_true (by kernel_rfl) ?_
    refine wp_skip ?_
    refine then_at (F := ⟨(iN .u8 f.toNat :: iN .u8 l.toNat :: un :: un :: .string { data := #[] } :: .slice (some ⟨q1, 0, none⟩) 32 32 :: iN .i64 k :: .slice (some ⟨q1, 0, none⟩) 32 32 :: iN .i64 k :: .bool true :: u 10 :: u 11 :: u 12 :: u 13 :: u 14 :: List.replicate 8 un).toArray, []⟩) (by kernel_rfl) ?_
    refine wp_seq ?_
    refine wp_block ?_
    -- region 5
    refine wl_region ?_
    refine wl_val (.slice (some ⟨q1, 0, none⟩) 32 32) (by kernel_rfl) (by kernel_rfl) ?_
    refine wl_val (iN .i64 k) (by kernel_rfl) (by kernel_rfl) ?_
    refine wl_val (.pointer (some ⟨q1, k, none⟩)) (by kernel_rfl) (run_addr_slice (q := q1) (n := 32) (m := 32) (a := k) Tryd.underlying55 (fun w => Tryd.sizeOf5 w) (by kernel_rfl) (by kernel_rfl) (by omega)) ?_
    refine wl_put (k := .u8) (z := ((255 : Nat) : Int)) h5 0 rfl k (by rw [ff_size k (by omega)]; exact hk) (by kernel_rfl) (fun w => Tryd.sizeOf5 w) (by kernel_rfl) (by kernel_rfl) ?_
    intro w6 h7
    have h8 : HA w [(q1, 5, ff (k + 1))] w6 := (by have := ff_put k hk; rw [← this]; exact h7)
    clear h7
    refine wl_nil ?_
    refine block_normal ?_
    refine then_at (F := ⟨(iN .u8 f.toNat :: iN .u8 l.toNat :: un :: un :: .string { data := #[] } :: .slice (some ⟨q1, 0, none⟩) 32 32 :: iN .i64 k :: .slice (some ⟨q1, 0, none⟩) 32 32 :: iN .i64 k :: .bool true :: u 10 :: u 11 :: .slice (some ⟨q1, 0, none⟩) 32 32 :: iN .i64 k :: .pointer (some ⟨q1, k, none⟩) :: List.replicate 8 un).toArray, []⟩) (by kernel_rfl) ?_
    -- region 4
    refine wl_region ?_
    refine wl_val (iN .i64 k) (by kernel_rfl) (by kernel_rfl) ?_
    refine wl_val (iN .i64 (k + 1)) (by kernel_rfl) (run_add (k := .i64) (a := k) (b := 1) (by kernel_rfl) (by kernel_rfl) (by simp only [top]; omega)) ?_
    refine wl_val (iN .i64 (k + 1)) (by kernel_rfl) (by kernel_rfl) ?_
    refine wl_nil ?_
    exact then_I ⟨fun ii => (([(8, iN .i64 k), (9, .bool true), (10, iN .i64 k), (11, iN .i64 (k + 1)), (12, .slice (some ⟨q1, 0, none⟩) 32 32), (13, iN .i64 k), (14, .pointer (some ⟨q1, k, none⟩))] : List (Nat × Value)).find? (·.1 == ii)).elim undef (·.2), by kernel_rfl, h8⟩
  · rintro _ w9 ⟨u, rfl, h10⟩
    refine wp_seq ?_
    refine wp_seq ?_
    -- region 3
    refine wl_region ?_
    refine wl_val (iN .i64 32) (by kernel_rfl) (by kernel_rfl) ?_
    refine wl_val (.bool false) (by kernel_rfl) (run_lss (k := .i64) (a := 32) (b := 32) (by kernel_rfl) (by kernel_rfl) false (by decide)) ?_
    refine wl_nil ?_
    refine then_at (F := ⟨(iN .u8 f.toNat :: iN .u8 l.toNat :: un :: un :: .string { data := #[] } :: .slice (some ⟨q1, 0, none⟩) 32 32 :: iN .i64 32 :: .slice (some ⟨q1, 0, none⟩) 32 32 :: iN .i64 32 :: .bool false :: u 10 :: u 11 :: u 12 :: u 13 :: u 14 :: List.replicate 8 un).toArray, []⟩) (by kernel_rfl) ?_
    refine wp_cond_false (by kernel_rfl) ?_
    refine wp_exit ?_
    repeat first | refine then_exit ?_ | refine block_exit ?_ | refine block_exit_ne (by decide) ?_
    refine then_at (F := ⟨(iN .u8 f.toNat :: iN .u8 l.toNat :: un :: un :: .string { data := #[] } :: .slice (some ⟨q1, 0, none⟩) 32 32 :: iN .i64 32 :: .slice (some ⟨q1, 0, none⟩) 32 32 :: iN .i64 32 :: .bool false :: u 10 :: u 11 :: u 12 :: u 13 :: u 14 :: List.replicate 8 un).toArray, []⟩) (by kernel_rfl) ?_
    refine wp_seq ?_
    -- region 6
    refine wl_region ?_
    refine wl_val (.slice (some ⟨q1, 0, none⟩) 32 32) (by kernel_rfl) (by kernel_rfl) ?_
    refine wl_val (iN .u8 f.toNat) (by kernel_rfl) (by kernel_rfl) ?_
    refine wl_val (.pointer (some ⟨q1, 0, none⟩)) (by kernel_rfl) (run_addr_slice (q := q1) (n := 32) (m := 32) (a := 0) Tryd.underlying55 (fun w => Tryd.sizeOf5 w) (by kernel_rfl) (by kernel_rfl) (by decide)) ?_
    refine wl_put (k := .u8) (z := ((f.toNat : Nat) : Int)) h10 0 rfl 0 (by decide) (by kernel_rfl) (fun w => Tryd.sizeOf5 w) (by kernel_rfl) (by kernel_rfl) ?_
    intro w11 h12
    have h13 : HA w [(q1, 5, (ff 32).setIfInBounds 0 (iN .u8 f.toNat))] w11 := h12
    clear h12
    refine wl_nil ?_
    refine then_at (F := ⟨(iN .u8 f.toNat :: iN .u8 l.toNat :: un :: un :: .string { data := #[] } :: .slice (some ⟨q1, 0, none⟩) 32 32 :: iN .i64 32 :: .slice (some ⟨q1, 0, none⟩) 32 32 :: iN .i64 32 :: .bool false :: u 10 :: u 11 :: u 12 :: u 13 :: u 14 :: .slice (some ⟨q1, 0, none⟩) 32 32 :: iN .u8 f.toNat :: pt q1 :: List.replicate 5 un).toArray, []⟩) (by kernel_rfl) ?_
    refine wp_seq ?_
    -- region 7
    refine wl_region ?_
    refine wl_val (.slice (some ⟨q1, 0, none⟩) 32 32) (by kernel_rfl) (by kernel_rfl) ?_
    refine wl_val (iN .u8 l.toNat) (by kernel_rfl) (by kernel_rfl) ?_
    refine wl_val (.pointer (some ⟨q1, 31, none⟩)) (by kernel_rfl) (run_addr_slice (q := q1) (n := 32) (m := 32) (a := 31) Tryd.underlying55 (fun w => Tryd.sizeOf5 w) (by kernel_rfl) (by kernel_rfl) (by decide)) ?_
    refine wl_put (k := .u8) (z := ((l.toNat : Nat) : Int)) h13 0 rfl 31 (by rw [Array.size_setIfInBounds, ff_size 32 (by decide)]; decide) (by kernel_rfl) (fun w => Tryd.sizeOf5 w) (by kernel_rfl) (by kernel_rfl) ?_
    intro w14 h15
    have h16 : HA w [(q1, 5, (cs (endsL f l)).toArray)] w14 := (by rw [← ff_ends]; exact h15)
    clear h15
    refine wl_nil ?_
    refine then_at (F := ⟨(iN .u8 f.toNat :: iN .u8 l.toNat :: un :: un :: .string { data := #[] } :: .slice (some ⟨q1, 0, none⟩) 32 32 :: iN .i64 32 :: .slice (some ⟨q1, 0, none⟩) 32 32 :: iN .i64 32 :: .bool false :: u 10 :: u 11 :: u 12 :: u 13 :: u 14 :: .slice (some ⟨q1, 0, none⟩) 32 32 :: iN .u8 f.toNat :: pt q1 :: .slice (some ⟨q1, 0, none⟩) 32 32 :: iN .u8 l.toNat :: .pointer (some ⟨q1, 31, none⟩) :: List.replicate 2 un).toArray, []⟩) (by kernel_rfl) ?_
    refine wp_seq ?_
    -- region 8
    refine wl_region ?_
    refine wl_val (.slice (some ⟨q1, 0, none⟩) 32 32) (by kernel_rfl) (by kernel_rfl) ?_
    refine wl_val (.string ⟨(endsL f l).toArray⟩) (by kernel_rfl) (run_text (endsL f l) (by kernel_rfl) (h16.get 0 rfl) rfl rfl) ?_
    refine wl_val (.string ⟨(endsL f l).toArray⟩) (by kernel_rfl) (by kernel_rfl) ?_
    refine wl_nil ?_
    refine then_at (F := ⟨(iN .u8 f.toNat :: iN .u8 l.toNat :: un :: un :: .string ⟨(endsL f l).toArray⟩ :: .slice (some ⟨q1, 0, none⟩) 32 32 :: iN .i64 32 :: .slice (some ⟨q1, 0, none⟩) 32 32 :: iN .i64 32 :: .bool false :: u 10 :: u 11 :: u 12 :: u 13 :: u 14 :: .slice (some ⟨q1, 0, none⟩) 32 32 :: iN .u8 f.toNat :: pt q1 :: .slice (some ⟨q1, 0, none⟩) 32 32 :: iN .u8 l.toNat :: .pointer (some ⟨q1, 31, none⟩) :: .slice (some ⟨q1, 0, none⟩) 32 32 :: .string ⟨(endsL f l).toArray⟩ :: List.replicate 0 un).toArray, []⟩) (by kernel_rfl) ?_
    refine wp_ret ?_
    repeat first | refine then_ret ?_ | refine block_ret ?_
    exact bodyPost_ret (v := .string ⟨(endsL f l).toArray⟩) (by kernel_rfl) rfl ⟨rfl, h16.old⟩


theorem bit_of (s : ByteArray) (j : Nat) : (sb s (j / 8) / 2 ^ (j % 8) &&& 1) = numS s / 2 ^ j % 2 := by
  have e : 2 ^ j = 256 ^ (j / 8) * 2 ^ (j % 8) := by
    rw [show (256 : Nat) = 2 ^ 8 from rfl, ← Nat.pow_mul, ← Nat.pow_add]
    congr 1
    omega
  have h1 : (sb s (j / 8) / 2 ^ (j % 8) &&& 1) = sb s (j / 8) / 2 ^ (j % 8) % 2 := Nat.and_two_pow_sub_one_eq_mod _ 1
  rw [h1, e, ← Nat.div_div_eq_div_mul]
  unfold sb
  generalize numS s / 256 ^ (j / 8) = M
  have hr : j % 8 < 8 := Nat.mod_lt _ (by decide)
  generalize j % 8 = r at *
  rcases r with _ | _ | _ | _ | _ | _ | _ | _ | r
  all_goals first | (simp only [Nat.reduceAdd, Nat.reducePow]; omega) | omega
/-- the power behind bit j -/
def pwr (a : Nat) (s : ByteArray) (j : Nat) : Nat := a ^ (numS s / 2 ^ j) % P
theorem pwr_lt (a : Nat) (s : ByteArray) (j : Nat) : pwr a s j < P := Nat.mod_lt _ P_pos
theorem pwr_start (a : Nat) (s : ByteArray) (hs : s.size = 32) : pwr a s 256 = 1 := by
  have h1 := num_lt 256 (bts s) (bts_lt s)
  rw [bts_length, hs] at h1
  unfold pwr
  rw [Nat.div_eq_of_lt (show numS s < 2 ^ 256 from Nat.lt_of_lt_of_le h1 (by decide)), Nat.pow_zero]
  rfl
theorem pwr_step (a : Nat) (s : ByteArray) (j : Nat) : pwr a s j = if numS s / 2 ^ j % 2 = 1 then mulP (mulP (pwr a s (j + 1)) (pwr a s (j + 1))) a else mulP (pwr a s (j + 1)) (pwr a s (j + 1)) := by
  unfold pwr mulP
  have e : numS s / 2 ^ (j + 1) = numS s / 2 ^ j / 2 := by rw [Nat.pow_succ, Nat.div_div_eq_div_mul]
  rw [e]
  generalize numS s / 2 ^ j = E
  have hE : E = E / 2 + E / 2 + E % 2 := by omega
  rw [← Nat.mul_mod]
  split
  · rename_i h
    conv => lhs; rw [hE, h, Nat.pow_add, Nat.pow_add, Nat.pow_one]
    rw [Nat.mod_mul_mod]
  · rename_i h
    have h0 : E % 2 = 0 := by omega
    conv => lhs; rw [hE, h0, Nat.add_zero, Nat.pow_add]
theorem pwr_one (a : Nat) (s : ByteArray) (j : Nat) (h : (sb s (j / 8) / 2 ^ (j % 8) &&& 1) = 1) : mulP (mulP (pwr a s (j + 1)) (pwr a s (j + 1))) a = pwr a s j := by
  rw [bit_of] at h
  rw [pwr_step a s j, if_pos h]
theorem pwr_nil (a : Nat) (s : ByteArray) (j : Nat) (h : ¬ (sb s (j / 8) / 2 ^ (j % 8) &&& 1) = 1) : mulP (pwr a s (j + 1)) (pwr a s (j + 1)) = pwr a s j := by
  rw [bit_of] at h
  rw [pwr_step a s j, if_neg h]
theorem pwr_zero (a : Nat) (s : ByteArray) : pwr a s 0 = a ^ numS s % P := by unfold pwr; rw [Nat.pow_zero, Nat.div_one]


set_option linter.unusedVariables false in
set_option maxRecDepth 100000 in
set_option maxHeartbeats 2000000 in
theorem rpower_any (a : Nat) (s : ByteArray) (ha : a < P) (hs : s.size = 32) (w : World) : Calls Tryd.prog 46 #[rarr a, .string s] w fun e w' => e = .returned (rarr (a ^ numS s % P)) ∧ Below w.heap.size w w' := by
  have H0 := HA.start w
  go_enter Tryd.func46, Tryd.ntmps46
  refine wp_seq ?_
  -- region 0
  refine wl_region ?_
  refine wl_make H0 30 (by kernel_rfl) (run_box30 (c := rl a) (by kernel_rfl)) ?_
  intro q1 w2 h3
  refine wl_make h3 30 (by kernel_rfl) run_alloc30 ?_
  intro q4 w5 h6
  refine wl_nil ?_
  refine then_at (F := ⟨(rarr a :: .string s :: pt q1 :: un :: pt q4 :: List.replicate 23 un).toArray, []⟩) (by kernel_rfl) ?_
  refine wp_seq ?_
  -- region 1
  refine wl_region ?_
  refine wl_call (v := rarr 1) h6 (by kernel_rfl) enter18 #[iN .u32 1] (by kernel_rfl) (rsmall_any 1 (by decide) w5) ?_
  intro w7 h8
  refine wl_make h8 30 (by kernel_rfl) run_alloc30 ?_
  intro q9 w10 h11
  refine wl_fill (c' := rl 1) h11 0 rfl (by kernel_rfl) (by kernel_rfl) (by kernel_rfl) (rl_sz _ _) (info_rl _) (one_rl _) ?_
  intro w12 (h13 : HA w [(q9, 30, rl 1), (q4, 30, rl 0), (q1, 30, rl a)] w12)
  refine wl_nil ?_
  refine then_at (F := ⟨(rarr a :: .string s :: pt q1 :: un :: pt q4 :: pt q9 :: un :: rarr 1 :: List.replicate 20 un).toArray, []⟩) (by kernel_rfl) ?_
  refine wp_seq ?_
  refine wp_seq ?_
  -- region 2
  refine wl_region ?_
  refine wl_val (iN .i64 255) (by kernel_rfl) (by kernel_rfl) ?_
  refine wl_nil ?_
  refine then_at (F := ⟨(rarr a :: .string s :: pt q1 :: un :: pt q4 :: pt q9 :: iN .i64 255 :: rarr 1 :: List.replicate 20 un).toArray, []⟩) (by kernel_rfl) ?_
  refine wp_block ?_
  refine wp_count (fun k A w' => ∃ u14 : Nat → Value, A = ⟨(rarr a :: .string s :: pt q1 :: un :: pt q4 :: pt q9 :: dnv (256 - k) :: rarr 1 :: u14 8 :: u14 9 :: u14 10 :: u14 11 :: u14 12 :: u14 13 :: u14 14 :: u14 15 :: u14 16 :: u14 17 :: u14 18 :: u14 19 :: u14 20 :: u14 21 :: u14 22 :: u14 23 :: u14 24 :: u14 25 :: u14 26 :: List.replicate 1 un).toArray, []⟩ ∧ HA w [(q9, 30, rl (pwr a s (256 - k))), (q4, 30, rl 0), (q1, 30, rl a)] w') 256 ?_ ?_ ?_
  · exact ⟨fun ii => (([(8, undef), (9, undef), (10, undef), (11, undef), (12, undef), (13, undef), (14, undef), (15, undef), (16, undef), (17, undef), (18, undef), (19, undef), (20, undef), (21, undef), (22, undef), (23, undef), (24, undef), (25, undef), (26, undef)] : List (Nat × Value)).find? (·.1 == ii)).elim undef (·.2), by kernel_rfl, (by rw [pwr_start a s hs]; exact h13)⟩
  · rintro k hk _ w15 ⟨u14, rfl, h16⟩
    obtain ⟨j, hj, ej⟩ : ∃ j, j < 256 ∧ 256 - k = j + 1 := ⟨255 - k, by omega, by omega⟩
    have ej2 : 256 - (k + 1) = j := by omega
    rw [ej] at h16
    rw [ej, ej2]
    refine wp_seq ?_
    refine wp_seq ?_
    -- region 3
    refine wl_region ?_
    refine wl_val (iN .i64 j) (by kernel_rfl) (by kernel_rfl) ?_
    refine wl_val (.bool true) (by kernel_rfl) (run_geq0 (k := .i64) (a := ((j : Nat) : Int)) (b := 0) (by kernel_rfl) (by kernel_rfl) true (decide_eq_true (by omega))) ?_
    refine wl_nil ?_
    refine then_at (F := ⟨(rarr a :: .string s :: pt q1 :: un :: pt q4 :: pt q9 :: iN .i64 j :: rarr 1 :: iN .i64 j :: .bool true :: u14 10 :: u14 11 :: u14 12 :: u14 13 :: u14 14 :: u14 15 :: u14 16 :: u14 17 :: u14 18 :: u14 19 :: u14 20 :: u14 21 :: u14 22 :: u14 23 :: u14 24 :: u14 25 :: u14 26 :: List.replicate 1 un).toArray, []⟩) (by kernel_rfl) ?_
    refine wp_cond_true (by kernel_rfl) ?_
    refine wp_skip ?_
    refine then_at (F := ⟨(rarr a :: .string s :: pt q1 :: un :: pt q4 :: pt q9 :: iN .i64 j :: rarr 1 :: iN .i64 j :: .bool true :: u14 10 :: u14 11 :: u14 12 :: u14 13 :: u14 14 :: u14 15 :: u14 16 :: u14 17 :: u14 18 :: u14 19 :: u14 20 :: u14 21 :: u14 22 :: u14 23 :: u14 24 :: u14 25 :: u14 26 :: List.replicate 1 un).toArray, []⟩) (by kernel_rfl) ?_
    refine wp_seq ?_
    refine wp_block ?_
    refine wp_seq ?_
    -- region 5
    refine wl_region ?_
    refine wl_load h16 0 rfl (by kernel_rfl) (by kernel_rfl) Tryd.underlying30 rfl (info_rl _) ?_
    refine wl_load h16 0 rfl (by kernel_rfl) (by kernel_rfl) Tryd.underlying30 rfl (info_rl _) ?_
    refine wl_call (v := rarr (mulP (pwr a s (j + 1)) (pwr a s (j + 1)))) h16 (by kernel_rfl) enter27 #[rarr (pwr a s (j + 1)), rarr (pwr a s (j + 1))] (by kernel_rfl) (rmul_any (pwr a s (j + 1)) (pwr a s (j + 1)) (Nat.lt_trans (pwr_lt _ _ _) (by decide)) (Nat.lt_trans (pwr_lt _ _ _) (by decide)) w15) ?_
    intro w17 h18
    refine wl_fill (c' := rl (mulP (pwr a s (j + 1)) (pwr a s (j + 1)))) h18 0 rfl (by kernel_rfl) (by kernel_rfl) (by kernel_rfl) (rl_sz _ _) (info_rl _) (one_rl _) ?_
    intro w19 (h20 : HA w [(q9, 30, rl (mulP (pwr a s (j + 1)) (pwr a s (j + 1)))), (q4, 30, rl 0), (q1, 30, rl a)] w19)
    refine wl_nil ?_
    refine then_at (F := ⟨(rarr a :: .string s :: pt q1 :: un :: pt q4 :: pt q9 :: iN .i64 j :: rarr 1 :: iN .i64 j :: .bool true :: u14 10 :: u14 11 :: rarr (pwr a s (j + 1)) :: rarr (pwr a s (j + 1)) :: rarr (mulP (pwr a s (j + 1)) (pwr a s (j + 1))) :: u14 15 :: u14 16 :: u14 17 :: u14 18 :: u14 19 :: u14 20 :: u14 21 :: u14 22 :: u14 23 :: u14 24 :: u14 25 :: u14 26 :: List.replicate 1 un).toArray, []⟩) (by kernel_rfl) ?_
    refine wp_seq ?_
    by_cases hbit : (sb s (j / 8) / 2 ^ (j % 8) &&& 1) = 1
    · -- region 6
      refine wl_region ?_
      refine wl_val (.string s) (by kernel_rfl) (by kernel_rfl) ?_
      refine wl_val (iN .i64 j) (by kernel_rfl) (by kernel_rfl) ?_
      refine wl_val (iN .i64 (j / 8)) (by kernel_rfl) (run_quo (k := .i64) (a := j) (b := 8) (by kernel_rfl) (by kernel_rfl) (by omega) (by simp only [top]; omega)) ?_
      refine wl_val (iN .u8 (sb s (j / 8))) (by kernel_rfl) (run_sidx (s := s) (a := j / 8) (by kernel_rfl) (by kernel_rfl) (by omega)) ?_
      refine wl_val (iN .i64 j) (by kernel_rfl) (by kernel_rfl) ?_
      refine wl_val (iN .i64 (j % 8)) (by kernel_rfl) (run_rem (k := .i64) (a := j) (b := 8) (by kernel_rfl) (by kernel_rfl) (by omega)) ?_
      refine wl_val (iN .u8 (sb s (j / 8) / 2 ^ (j % 8))) (by kernel_rfl) (run_shr (k2 := .i64) (k := .u8) (a := sb s (j / 8)) (b := j % 8) (by kernel_rfl) (by kernel_rfl) (show j % 8 ≤ 8 by omega)) ?_
      refine wl_val (iN .u8 (sb s (j / 8) / 2 ^ (j % 8) &&& 1)) (by kernel_rfl) (run_and8 (a := sb s (j / 8) / 2 ^ (j % 8)) (b := 1) (by kernel_rfl) (by kernel_rfl) (Nat.lt_of_le_of_lt (Nat.div_le_self _ _) (sb_lt s _)) (by decide)) ?_
      refine wl_val (.bool true) (by kernel_rfl) (run_eqi (k := .u8) (a := sb s (j / 8) / 2 ^ (j % 8) &&& 1) (b := 1) (by kernel_rfl) (by kernel_rfl) true (decide_eq_true hbit)) ?_
      refine wl_nil ?_
      refine then_at (F := ⟨(rarr a :: .string s :: pt q1 :: un :: pt q4 :: pt q9 :: iN .i64 j :: rarr 1 :: iN .i64 j :: .bool true :: u14 10 :: u14 11 :: rarr (pwr a s (j + 1)) :: rarr (pwr a s (j + 1)) :: rarr (mulP (pwr a s (j + 1)) (pwr a s (j + 1))) :: .string s :: iN .i64 j :: iN .i64 (j / 8) :: iN .u8 (sb s (j / 8)) :: iN .i64 j :: iN .i64 (j % 8) :: iN .u8 (sb s (j / 8) / 2 ^ (j % 8)) :: iN .u8 (sb s (j / 8) / 2 ^ (j % 8) &&& 1) :: .bool true :: u14 24 :: u14 25 :: u14 26 :: List.replicate 1 un).toArray, []⟩) (by kernel_rfl) ?_
      refine wp_cond_true (by kernel_rfl) ?_
      -- region 7
      refine wl_region ?_
      refine wl_load h20 0 rfl (by kernel_rfl) (by kernel_rfl) Tryd.underlying30 rfl (info_rl _) ?_
      refine wl_load h20 2 rfl (by kernel_rfl) (by kernel_rfl) Tryd.underlying30 rfl (info_rl _) ?_
      refine wl_call (v := rarr (mulP (mulP (pwr a s (j + 1)) (pwr a s (j + 1))) a)) h20 (by kernel_rfl) enter27 #[rarr (mulP (pwr a s (j + 1)) (pwr a s (j + 1))), rarr a] (by kernel_rfl) (rmul_any (mulP (pwr a s (j + 1)) (pwr a s (j + 1))) a (Nat.lt_trans (mulP_lt _ _) (by decide)) (Nat.lt_trans ha (by decide)) w19) ?_
      intro w21 h22
      refine wl_fill (c' := rl (mulP (mulP (pwr a s (j + 1)) (pwr a s (j + 1))) a)) h22 0 rfl (by kernel_rfl) (by kernel_rfl) (by kernel_rfl) (rl_sz _ _) (info_rl _) (one_rl _) ?_
      intro w23 (h24 : HA w [(q9, 30, rl (mulP (mulP (pwr a s (j + 1)) (pwr a s (j + 1))) a)), (q4, 30, rl 0), (q1, 30, rl a)] w23)
      refine wl_nil ?_
      refine block_normal ?_
      refine then_at (F := ⟨(rarr a :: .string s :: pt q1 :: un :: pt q4 :: pt q9 :: iN .i64 j :: rarr 1 :: iN .i64 j :: .bool true :: u14 10 :: u14 11 :: rarr (pwr a s (j + 1)) :: rarr (pwr a s (j + 1)) :: rarr (mulP (pwr a s (j + 1)) (pwr a s (j + 1))) :: .string s :: iN .i64 j :: iN .i64 (j / 8) :: iN .u8 (sb s (j / 8)) :: iN .i64 j :: iN .i64 (j % 8) :: iN .u8 (sb s (j / 8) / 2 ^ (j % 8)) :: iN .u8 (sb s (j / 8) / 2 ^ (j % 8) &&& 1) :: .bool true :: rarr (mulP (pwr a s (j + 1)) (pwr a s (j + 1))) :: rarr a :: rarr (mulP (mulP (pwr a s (j + 1)) (pwr a s (j + 1))) a) :: List.replicate 1 un).toArray, []⟩) (by kernel_rfl) ?_
      -- region 4
      refine wl_region ?_
      refine wl_val (iN .i64 j) (by kernel_rfl) (by kernel_rfl) ?_
      refine wl_val (dnv j) (by kernel_rfl) (run_dec (j := j) (by omega) (by kernel_rfl) (by kernel_rfl)) ?_
      refine wl_val (dnv j) (by kernel_rfl) (by kernel_rfl) ?_
      refine wl_nil ?_
      exact then_I ⟨fun ii => (([(8, iN .i64 j), (9, .bool true), (10, iN .i64 j), (11, dnv j), (12, rarr (pwr a s (j + 1))), (13, rarr (pwr a s (j + 1))), (14, rarr (mulP (pwr a s (j + 1)) (pwr a s (j + 1)))), (15, .string s), (16, iN .i64 j), (17, iN .i64 (j / 8)), (18, iN .u8 (sb s (j / 8))), (19, iN .i64 j), (20, iN .i64 (j % 8)), (21, iN .u8 (sb s (j / 8) / 2 ^ (j % 8))), (22, iN .u8 (sb s (j / 8) / 2 ^ (j % 8) &&& 1)), (23, .bool true), (24, rarr (mulP (pwr a s (j + 1)) (pwr a s (j + 1)))), (25, rarr a), (26, rarr (mulP (mulP (pwr a s (j + 1)) (pwr a s (j + 1))) a))] : List (Nat × Value)).find? (·.1 == ii)).elim undef (·.2), by kernel_rfl, (by rw [← pwr_one a s j hbit]; exact h24)⟩
    · -- region 6
      refine wl_region ?_
      refine wl_val (.string s) (by kernel_rfl) (by kernel_rfl) ?_
      refine wl_val (iN .i64 j) (by kernel_rfl) (by kernel_rfl) ?_
      refine wl_val (iN .i64 (j / 8)) (by kernel_rfl) (run_quo (k := .i64) (a := j) (b := 8) (by kernel_rfl) (by kernel_rfl) (by omega) (by simp only [top]; omega)) ?_
      refine wl_val (iN .u8 (sb s (j / 8))) (by kernel_rfl) (run_sidx (s := s) (a := j / 8) (by kernel_rfl) (by kernel_rfl) (by omega)) ?_
      refine wl_val (iN .i64 j) (by kernel_rfl) (by kernel_rfl) ?_
      refine wl_val (iN .i64 (j % 8)) (by kernel_rfl) (run_rem (k := .i64) (a := j) (b := 8) (by kernel_rfl) (by kernel_rfl) (by omega)) ?_
      refine wl_val (iN .u8 (sb s (j / 8) / 2 ^ (j % 8))) (by kernel_rfl) (run_shr (k2 := .i64) (k := .u8) (a := sb s (j / 8)) (b := j % 8) (by kernel_rfl) (by kernel_rfl) (show j % 8 ≤ 8 by omega)) ?_
      refine wl_val (iN .u8 (sb s (j / 8) / 2 ^ (j % 8) &&& 1)) (by kernel_rfl) (run_and8 (a := sb s (j / 8) / 2 ^ (j % 8)) (b := 1) (by kernel_rfl) (by kernel_rfl) (Nat.lt_of_le_of_lt (Nat.div_le_self _ _) (sb_lt s _)) (by decide)) ?_
      refine wl_val (.bool false) (by kernel_rfl) (run_eqi (k := .u8) (a := sb s (j / 8) / 2 ^ (j % 8) &&& 1) (b := 1) (by kernel_rfl) (by kernel_rfl) false (decide_eq_false hbit)) ?_
      refine wl_nil ?_
      refine then_at (F := ⟨(rarr a :: .string s :: pt q1 :: un :: pt q4 :: pt q9 :: iN .i64 j :: rarr 1 :: iN .i64 j :: .bool true :: u14 10 :: u14 11 :: rarr (pwr a s (j + 1)) :: rarr (pwr a s (j + 1)) :: rarr (mulP (pwr a s (j + 1)) (pwr a s (j + 1))) :: .string s :: iN .i64 j :: iN .i64 (j / 8) :: iN .u8 (sb s (j / 8)) :: iN .i64 j :: iN .i64 (j % 8) :: iN .u8 (sb s (j / 8) / 2 ^ (j % 8)) :: iN .u8 (sb s (j / 8) / 2 ^ (j % 8) &&& 1) :: .bool false :: u14 24 :: u14 25 :: u14 26 :: List.replicate 1 un).toArray, []⟩) (by kernel_rfl) ?_
      refine wp_cond_false (by kernel_rfl) ?_
      refine wp_skip ?_
      refine block_normal ?_
      refine then_at (F := ⟨(rarr a :: .string s :: pt q1 :: un :: pt q4 :: pt q9 :: iN .i64 j :: rarr 1 :: iN .i64 j :: .bool true :: u14 10 :: u14 11 :: rarr (pwr a s (j + 1)) :: rarr (pwr a s (j + 1)) :: rarr (mulP (pwr a s (j + 1)) (pwr a s (j + 1))) :: .string s :: iN .i64 j :: iN .i64 (j / 8) :: iN .u8 (sb s (j / 8)) :: iN .i64 j :: iN .i64 (j % 8) :: iN .u8 (sb s (j / 8) / 2 ^ (j % 8)) :: iN .u8 (sb s (j / 8) / 2 ^ (j % 8) &&& 1) :: .bool false :: u14 24 :: u14 25 :: u14 26 :: List.replicate 1 un).toArray, []⟩) (by kernel_rfl) ?_
      -- region 4
      refine wl_region ?_
      refine wl_val (iN .i64 j) (by kernel_rfl) (by kernel_rfl) ?_
      refine wl_val (dnv j) (by kernel_rfl) (run_dec (j := j) (by omega) (by kernel_rfl) (by kernel_rfl)) ?_
      refine wl_val (dnv j) (by kernel_rfl) (by kernel_rfl) ?_
      refine wl_nil ?_
      exact then_I ⟨fun ii => (([(8, iN .i64 j), (9, .bool true), (10, iN .i64 j), (11, dnv j), (12, rarr (pwr a s (j + 1))), (13, rarr (pwr a s (j + 1))), (14, rarr (mulP (pwr a s (j + 1)) (pwr a s (j + 1)))), (15, .string s), (16, iN .i64 j), (17, iN .i64 (j / 8)), (18, iN .u8 (sb s (j / 8))), (19, iN .i64 j), (20, iN .i64 (j % 8)), (21, iN .u8 (sb s (j / 8) / 2 ^ (j % 8))), (22, iN .u8 (sb s (j / 8) / 2 ^ (j % 8) &&& 1)), (23, .bool false), (24, u14 24), (25, u14 25), (26, u14 26)] : List (Nat × Value)).find? (·.1 == ii)).elim undef (·.2), by kernel_rfl, (by rw [← pwr_nil a s j hbit]; exact h20)⟩
  · rintro _ w25 ⟨u14, rfl, h26⟩
    refine wp_seq ?_
    refine wp_seq ?_
    -- region 3
    refine wl_region ?_
    refine wl_val (dnv 0) (by kernel_rfl) (by kernel_rfl) ?_
    refine wl_val (.bool false) (by kernel_rfl) (run_geq0 (k := .i64) (a := -1) (b := 0) (by kernel_rfl) (by kernel_rfl) false (by decide)) ?_
    refine wl_nil ?_
    refine then_at (F := ⟨(rarr a :: .string s :: pt q1 :: un :: pt q4 :: pt q9 :: dnv 0 :: rarr 1 :: dnv 0 :: .bool false :: u14 10 :: u14 11 :: u14 12 :: u14 13 :: u14 14 :: u14 15 :: u14 16 :: u14 17 :: u14 18 :: u14 19 :: u14 20 :: u14 21 :: u14 22 :: u14 23 :: u14 24 :: u14 25 :: u14 26 :: List.replicate 1 un).toArray, []⟩) (by kernel_rfl) ?_
    refine wp_cond_false (by kernel_rfl) ?_
    refine wp_exit ?_
    repeat first | refine then_exit ?_ | refine block_exit ?_ | refine block_exit_ne (by decide) ?_
    have h27 : HA w [(q9, 30, rl (pwr a s 0)), (q4, 30, rl 0), (q1, 30, rl a)] w25 := h26
    refine then_at (F := ⟨(rarr a :: .string s :: pt q1 :: un :: pt q4 :: pt q9 :: dnv 0 :: rarr 1 :: dnv 0 :: .bool false :: u14 10 :: u14 11 :: u14 12 :: u14 13 :: u14 14 :: u14 15 :: u14 16 :: u14 17 :: u14 18 :: u14 19 :: u14 20 :: u14 21 :: u14 22 :: u14 23 :: u14 24 :: u14 25 :: u14 26 :: List.replicate 1 un).toArray, []⟩) (by kernel_rfl) ?_
    refine wp_seq ?_
    -- region 8
    refine wl_region ?_
    refine wl_load h27 0 rfl (by kernel_rfl) (by kernel_rfl) Tryd.underlying30 rfl (info_rl _) ?_
    refine wl_fill (c' := rl (pwr a s 0)) h27 1 rfl (by kernel_rfl) (by kernel_rfl) (by kernel_rfl) (rl_sz _ _) (info_rl _) (one_rl _) ?_
    intro w28 (h29 : HA w [(q9, 30, rl (pwr a s 0)), (q4, 30, rl (pwr a s 0)), (q1, 30, rl a)] w28)
    refine wl_nil ?_
    refine then_at (F := ⟨(rarr a :: .string s :: pt q1 :: un :: pt q4 :: pt q9 :: dnv 0 :: rarr 1 :: dnv 0 :: .bool false :: u14 10 :: u14 11 :: u14 12 :: u14 13 :: u14 14 :: u14 15 :: u14 16 :: u14 17 :: u14 18 :: u14 19 :: u14 20 :: u14 21 :: u14 22 :: u14 23 :: u14 24 :: u14 25 :: u14 26 :: rarr (pwr a s 0) :: List.replicate 0 un).toArray, []⟩) (by kernel_rfl) ?_
    refine wp_ret ?_
    repeat first | refine then_ret ?_ | refine block_ret ?_
    exact bodyPost_ret (v := rarr (pwr a s 0)) (res_cell (p := 4) (by kernel_rfl) (by kernel_rfl) (h29.get 1 rfl) Tryd.underlying30 rfl (info_rl _)) rfl ⟨by rw [pwr_zero], h29.old⟩

theorem rpower_is (a E : Nat) (s : ByteArray) (ha : a < P) (hs : s.size = 32) (h : numS s = E) (w : World) : Calls Tryd.prog 46 #[rarr a, .string s] w fun e w' => e = .returned (rarr (a ^ E % P)) ∧ Below w.heap.size w w' := by
  have h1 := rpower_any a s ha hs w
  rw [h] at h1
  exact h1
theorem exp_inv : numS ⟨(endsL 235 127).toArray⟩ = P - 2 := by decide +kernel
theorem exp_root : numS ⟨(endsL 254 15).toArray⟩ = eighth := by decide +kernel
theorem exp_minus : numS ⟨(endsL 251 31).toArray⟩ = (P - 1) / 4 := by decide +kernel

set_option linter.unusedVariables false in
set_option maxRecDepth 100000 in
set_option maxHeartbeats 2000000 in
theorem rinv_any (a : Nat) (ha : a < P) (w : World) : Calls Tryd.prog 34 #[rarr a] w fun e w' => e = .returned (rarr (invE a)) ∧ Below w.heap.size w w' := by
  have H0 := HA.start w
  go_enter Tryd.func34, Tryd.ntmps34
  refine wp_seq ?_
  -- region 0
  refine wl_region ?_
  refine wl_make H0 30 (by kernel_rfl) (run_box30 (c := rl a) (by kernel_rfl)) ?_
  intro q1 w2 h3
  refine wl_make h3 30 (by kernel_rfl) run_alloc30 ?_
  intro q4 w5 h6
  refine wl_nil ?_
  refine then_at (F := ⟨(rarr a :: pt q1 :: pt q4 :: List.replicate 3 un).toArray, []⟩) (by kernel_rfl) ?_
  refine wp_seq ?_
  -- region 1
  refine wp_region_ghost (fun _ : Nat → Nat => (⟨(rarr a :: pt q1 :: pt q4 :: rarr a :: .string ⟨(endsL 235 127).toArray⟩ :: rarr (invE a) :: List.replicate 0 un).toArray, []⟩ : Act)) (GF w [(q4, 30, rl 0), (q1, 30, rl a)] 3 2 0 q4 30 (rl (invE a))) [rarr a, .string ⟨(endsL 235 127).toArray⟩, rarr (invE a), undef] (by kernel_rfl) (by kernel_rfl) (by kernel_rfl) (by kernel_rfl) (fun _ _ _ _ h => h) (fun d hd => GF.start h6.drew (hd 3 (by decide))) ?_ ?_
  · refine AllGhost.cons (gf_load2 1 (by decide) rfl (by decide) (fun _ => by kernel_rfl) (fun _ => by kernel_rfl) (fun _ => by kernel_rfl) Tryd.underlying30 rfl (info_rl _)) ?_
    refine AllGhost.cons (gf_call (v := .string ⟨(endsL 235 127).toArray⟩) (by decide) (fun _ => by kernel_rfl) (fun _ => by kernel_rfl) enter47 #[iN .u8 235, iN .u8 127] (fun _ => by kernel_rfl) (fun w' => rexp_any 235 127 w')) ?_
    refine AllGhost.cons (gf_call (v := rarr (invE a)) (by decide) (fun _ => by kernel_rfl) (fun _ => by kernel_rfl) enter46 #[rarr a, .string ⟨(endsL 235 127).toArray⟩] (fun _ => by kernel_rfl) (fun w' => rpower_is a _ _ ha rfl exp_inv w')) ?_
    refine AllGhost.cons (gf_fill rfl (rl_sz _ _) (fun _ => by kernel_rfl) (fun _ => by kernel_rfl) (fun _ => by kernel_rfl) (fun _ => by kernel_rfl) (info_rl _) (one_rl _) (by decide) (by kernel_rfl)) ?_
    exact AllGhost.nil
  intro _ w7 g8
  have h9 : HA w [(q4, 30, rl (invE a)), (q1, 30, rl a)] w7 := g8.held
  clear g8
  refine then_at (F := ⟨(rarr a :: pt q1 :: pt q4 :: rarr a :: .string ⟨(endsL 235 127).toArray⟩ :: rarr (invE a) :: List.replicate 0 un).toArray, []⟩) (by kernel_rfl) ?_
  refine wp_ret ?_
  repeat first | refine then_ret ?_ | refine block_ret ?_
  exact bodyPost_ret (v := rarr (invE a)) (res_cell (p := 2) (by kernel_rfl) (by kernel_rfl) (h9.get 0 rfl) Tryd.underlying30 rfl (info_rl _)) rfl ⟨rfl, h9.old⟩
end Go.Proofs.YtbmfmamhidccbaaDoor
