/-
 exponent: a byte, 30 bytes 255, a byte.
-/
import Derived.Test.YtefjnfeckenmkaaGreatDoorR1
namespace Go.Proofs.YtefjnfeckenmkaaGreatDoor
set_option maxRecDepth 100000
open Go.RowKit Num
theorem rexp_any (f l : UInt8) (w : World) :
  Calls Tryz.prog 120 #[iN .u8 f.toNat, iN .u8 l.toNat] w fun e w' => e = .returned (.string ⟨(endsL f l).toArray⟩) ∧ Below w.heap.size w w' := by
 have H0 := HA.start w
 go_enter Tryz.func120, Tryz.ntmps120
 refine zsr ?_
 refine zwv (.string { data := #[] }) ?_
 refine znt ?_
 refine zsr ?_
 refine wl_mkslice (n := 32) H0 5 (by kernel_rfl) (run_mk 32) ?_
 intro q1 w2 h3
 refine zwv (.slice (some ⟨q1, 0, none⟩) 32 32) ?_
 refine znt ?_
 refine wp_seq ?_
 refine zsr ?_
 refine zwv (iN .i64 0) ?_
 refine znt ?_
 refine wp_block ?_
 refine wp_count (fun k A w' => ∃ u : Nat → Value, A = ⟨(iN .u8 f.toNat :: iN .u8 l.toNat :: un :: un :: .string { data := #[] } :: .slice (some ⟨q1, 0, none⟩) 32 32 :: iN .i64 k :: .slice (some ⟨q1, 0, none⟩) 32 32 :: u 8 :: u 9 :: u 10 :: u 11 :: u 12 :: u 13 :: u 14 :: List.replicate 8 un).toArray, []⟩ ∧ HA w [(q1, 5, ff k)] w') 32 ?_ ?_ ?_
 ·exact zex ((by rw [← (by kernel_rfl : zr 32 = ff 0)]; exact h3))
 ·rintro k hk _ w4 ⟨u, rfl, h5⟩
  refine wp_seq ?_
  refine zsr ?_
  refine zwv (iN .i64 k) ?_
  refine zwu (run_lss (k := .i64) (a := k) (b := 32) true (decide_eq_true hk)) ?_
  refine znt ?_
  refine zct ?_
  refine wp_skip ?_
  refine then_at rfl ?_
  refine wp_seq ?_
  refine wp_block ?_
  refine wl_region ?_
  refine zwv (.slice (some ⟨q1, 0, none⟩) 32 32) ?_
  refine zwv (iN .i64 k) ?_
  refine zwu (run_addr_slice (q := q1) (n := 32) (m := 32) (a := k) Tryz.underlying71 Tryz.sizeOf5 (by omega)) ?_
  refine wl_put (k := .u8) (z := ((255 : Nat) : Int)) h5 0 rfl k (by rw [ff_size k (by omega)]; exact hk) Tryz.sizeOf5 ?_
  intro w6 h7
  have h8 : HA w [(q1, 5, ff (k + 1))] w6 := (by have := ff_put k hk; rw [← this]; exact h7)
  clear h7
  refine wl_nil ?_
  refine block_normal ?_
  refine then_at rfl ?_
  refine wl_region ?_
  refine zwv (iN .i64 k) ?_
  refine zwu (run_add (k := .i64) (a := k) (b := 1) (by simp only [top]; omega)) ?_
  refine zwv (iN .i64 (k + 1)) ?_
  refine wl_nil ?_
  exact then_I (zex h8)
 ·rintro _ w9 ⟨u, rfl, h10⟩
  refine wp_seq ?_
  refine zsr ?_
  refine zwv (iN .i64 32) ?_
  refine zwu (run_lss (k := .i64) (a := 32) (b := 32) false (by decide)) ?_
  refine znt ?_
  refine zcf ?_
  refine wp_exit ?_
  repeat first | refine then_exit ?_ | refine block_exit ?_ | refine block_exit_ne (by decide) ?_
  refine then_at rfl ?_
  refine zsr ?_
  refine zwv (.slice (some ⟨q1, 0, none⟩) 32 32) ?_
  refine zwv (iN .u8 f.toNat) ?_
  refine zwu (run_addr_slice (q := q1) (n := 32) (m := 32) (a := 0) Tryz.underlying71 Tryz.sizeOf5 (by decide)) ?_
  refine wl_put (k := .u8) (z := ((f.toNat : Nat) : Int)) h10 0 rfl 0 (by decide) Tryz.sizeOf5 ?_
  intro w11 h12
  have h13 : HA w [(q1, 5, (ff 32).setIfInBounds 0 (iN .u8 f.toNat))] w11 := h12
  clear h12
  refine znt ?_
  refine zsr ?_
  refine zwv (.slice (some ⟨q1, 0, none⟩) 32 32) ?_
  refine zwv (iN .u8 l.toNat) ?_
  refine zwu (run_addr_slice (q := q1) (n := 32) (m := 32) (a := 31) Tryz.underlying71 Tryz.sizeOf5 (by decide)) ?_
  refine wl_put (k := .u8) (z := ((l.toNat : Nat) : Int)) h13 0 rfl 31 (by rw [Array.size_setIfInBounds, ff_size 32 (by decide)]; decide) Tryz.sizeOf5 ?_
  intro w14 h15
  have h16 : HA w [(q1, 5, (cs (endsL f l)).toArray)] w14 := (by rw [← ff_ends]; exact h15)
  clear h15
  refine znt ?_
  refine zsr ?_
  refine zwv (.slice (some ⟨q1, 0, none⟩) 32 32) ?_
  refine zwu (run_text (endsL f l) (by kernel_rfl) (h16.get 0 rfl) rfl rfl) ?_
  refine zwv (.string ⟨(endsL f l).toArray⟩) ?_
  refine zna ⟨(iN .u8 f.toNat :: iN .u8 l.toNat :: un :: un :: .string ⟨(endsL f l).toArray⟩ :: .slice (some ⟨q1, 0, none⟩) 32 32 :: iN .i64 32 :: .slice (some ⟨q1, 0, none⟩) 32 32 :: iN .i64 32 :: .bool false :: u 10 :: u 11 :: u 12 :: u 13 :: u 14 :: .slice (some ⟨q1, 0, none⟩) 32 32 :: iN .u8 f.toNat :: pt q1 :: .slice (some ⟨q1, 0, none⟩) 32 32 :: iN .u8 l.toNat :: .pointer (some ⟨q1, 31, none⟩) :: .slice (some ⟨q1, 0, none⟩) 32 32 :: .string ⟨(endsL f l).toArray⟩ :: List.replicate 0 un).toArray, []⟩ ?_
  refine wp_ret ?_
  repeat first | refine then_ret ?_ | refine block_ret ?_
  exact bodyPost_ret (by kernel_rfl) rfl ⟨rfl, h16.old⟩
end Go.Proofs.YtefjnfeckenmkaaGreatDoor

namespace Go.Proofs.YtefjnfeckenmkaaGreatDoor
open Go.RowKit Num
theorem bit_of (s : ByteArray) (j : Nat) : (sb s (j / 8) / 2 ^ (j % 8) &&& 1) = numS s / 2 ^ j % 2 := by
 have e : 2 ^ j = 256 ^ (j / 8) * 2 ^ (j % 8) := by
  rw [show (256 : Nat) = 2 ^ 8 from rfl, ← Nat.pow_mul, ← Nat.pow_add]
  congr 1
  omega
 have h1 : (sb s (j / 8) / 2 ^ (j % 8) &&& 1) = sb s (j / 8) / 2 ^ (j % 8) % 2 := Nat.and_two_pow_sub_one_eq_mod _ 1
 rw [h1, e, ← Nat.div_div_eq_div_mul]
 unfold sb
 generalize numS s / 256 ^ (j / 8) = M
 have hr : j % 8 < 8 := Nat.mod_lt _ (by decide)
 generalize j % 8 = r at *
 rcases r with _ | _ | _ | _ | _ | _ | _ | _ | r
 all_goals first | (simp only [Nat.reduceAdd, Nat.reducePow]; omega) | omega
def pwr (a : Nat) (s : ByteArray) (j : Nat) : Nat := a ^ (numS s / 2 ^ j) % P
theorem pwr_lt (a : Nat) (s : ByteArray) (j : Nat) : pwr a s j < P := Nat.mod_lt _ P_pos
theorem pwr_start (a : Nat) (s : ByteArray) (hs : s.size = 32) : pwr a s 256 = 1 := by
 have h1 := num_lt 256 (bts s) (bts_lt s)
 rw [bts_length, hs] at h1
 unfold pwr
 rw [Nat.div_eq_of_lt (show numS s < 2 ^ 256 from Nat.lt_of_lt_of_le h1 (by decide)), Nat.pow_zero]
 rfl
theorem pwr_step (a : Nat) (s : ByteArray) (j : Nat) : pwr a s j = if numS s / 2 ^ j % 2 = 1 then mulP (mulP (pwr a s (j + 1)) (pwr a s (j + 1))) a else mulP (pwr a s (j + 1)) (pwr a s (j + 1)) := by
 unfold pwr mulP
 have e : numS s / 2 ^ (j + 1) = numS s / 2 ^ j / 2 := by rw [Nat.pow_succ, Nat.div_div_eq_div_mul]
 rw [e]
 generalize numS s / 2 ^ j = E
 have hE : E = E / 2 + E / 2 + E % 2 := by omega
 rw [← Nat.mul_mod]
 split
 ·rename_i h
  conv => lhs; rw [hE, h, Nat.pow_add, Nat.pow_add, Nat.pow_one]
  rw [Nat.mod_mul_mod]
 ·rename_i h
  have h0 : E % 2 = 0 := by omega
  conv => lhs; rw [hE, h0, Nat.add_zero, Nat.pow_add]
theorem pwr_one (a : Nat) (s : ByteArray) (j : Nat) (h : (sb s (j / 8) / 2 ^ (j % 8) &&& 1) = 1) : mulP (mulP (pwr a s (j + 1)) (pwr a s (j + 1))) a = pwr a s j := by
 rw [bit_of] at h
 rw [pwr_step a s j, if_pos h]
theorem pwr_nil (a : Nat) (s : ByteArray) (j : Nat) (h : ¬ (sb s (j / 8) / 2 ^ (j % 8) &&& 1) = 1) : mulP (pwr a s (j + 1)) (pwr a s (j + 1)) = pwr a s j := by
 rw [bit_of] at h
 rw [pwr_step a s j, if_neg h]
theorem pwr_zero (a : Nat) (s : ByteArray) : pwr a s 0 = a ^ numS s % P := by unfold pwr; rw [Nat.pow_zero, Nat.div_one]
end Go.Proofs.YtefjnfeckenmkaaGreatDoor

namespace Go.Proofs.YtefjnfeckenmkaaGreatDoor
set_option linter.unusedVariables false
set_option maxRecDepth 100000
set_option maxHeartbeats 2000000
open Go.RowKit Num
theorem rpower_any (a : Nat) (s : ByteArray) (ha : a < P) (hs : s.size = 32) (w : World) : Calls Tryz.prog 119 #[rarr a, .string s] w fun e w' => e = .returned (rarr (a ^ numS s % P)) ∧ Below w.heap.size w w' := by
 have H0 := HA.start w
 go_enter Tryz.func119, Tryz.ntmps119
 refine zsr ?_
 refine wl_make H0 51 (run_box32 (c := rl a)) ?_
 intro q1 w2 h3
 refine wl_make h3 51 run_alloc32 ?_
 intro q4 w5 h6
 refine znt ?_
 refine zsr ?_
 refine zwc h6 enter97 (rsmall_any 1 (by decide) w5) ?_
 intro w7 h8
 refine wl_make h8 51 run_alloc32 ?_
 intro q9 w10 h11
 refine wl_fill (c' := rl 1) h11 0 rfl (rl_sz _ _) (info_rl _) (one_rl _) ?_
 intro w12 (h13 : HA w [(q9, 51, rl 1), (q4, 51, rl 0), (q1, 51, rl a)] w12)
 refine znt ?_
 refine wp_seq ?_
 refine zsr ?_
 refine zwv (iN .i64 255) ?_
 refine znt ?_
 refine wp_block ?_
 refine wp_count (fun k A w' => ∃ u14 : Nat → Value, A = ⟨(rarr a :: .string s :: pt q1 :: un :: pt q4 :: pt q9 :: dnv (256 - k) :: rarr 1 :: u14 8 :: u14 9 :: u14 10 :: u14 11 :: u14 12 :: u14 13 :: u14 14 :: u14 15 :: u14 16 :: u14 17 :: u14 18 :: u14 19 :: u14 20 :: u14 21 :: u14 22 :: u14 23 :: u14 24 :: u14 25 :: u14 26 :: List.replicate 1 un).toArray, []⟩ ∧ HA w [(q9, 51, rl (pwr a s (256 - k))), (q4, 51, rl 0), (q1, 51, rl a)] w') 256 ?_ ?_ ?_
 ·exact zex ((by rw [pwr_start a s hs]; exact h13))
 ·rintro k hk _ w15 ⟨u14, rfl, h16⟩
  obtain ⟨j, hj, ej⟩ : ∃ j, j < 256 ∧ 256 - k = j + 1 := ⟨255 - k, by omega, by omega⟩
  have ej2 : 256 - (k + 1) = j := by omega
  rw [ej] at h16
  rw [ej, ej2]
  refine wp_seq ?_
  refine zsr ?_
  refine zwv (iN .i64 j) ?_
  refine zwu (run_geq0 (k := .i64) (a := ((j : Nat) : Int)) (b := 0) true (decide_eq_true (by omega))) ?_
  refine znt ?_
  refine zct ?_
  refine wp_skip ?_
  refine then_at rfl ?_
  refine wp_seq ?_
  refine wp_block ?_
  refine zsr ?_
  refine wl_load h16 0 rfl Tryz.underlying51 rfl (info_rl _) ?_
  refine wl_load h16 0 rfl Tryz.underlying51 rfl (info_rl _) ?_
  refine zwc (v := rarr (mulP (pwr a s (j + 1)) (pwr a s (j + 1)))) (args := #[rarr (pwr a s (j + 1)), rarr (pwr a s (j + 1))]) h16 enter90 (rmul_any (pwr a s (j + 1)) (pwr a s (j + 1)) (Nat.lt_trans (pwr_lt _ _ _) (by decide)) (Nat.lt_trans (pwr_lt _ _ _) (by decide)) w15) ?_
  intro w17 h18
  refine wl_fill (c' := rl (mulP (pwr a s (j + 1)) (pwr a s (j + 1)))) h18 0 rfl (rl_sz _ _) (info_rl _) (one_rl _) ?_
  intro w19 (h20 : HA w [(q9, 51, rl (mulP (pwr a s (j + 1)) (pwr a s (j + 1)))), (q4, 51, rl 0), (q1, 51, rl a)] w19)
  refine znt ?_
  refine wp_seq ?_
  by_cases hbit : (sb s (j / 8) / 2 ^ (j % 8) &&& 1) = 1
  · -- region 6
   refine wl_region ?_
   refine zwv (.string s) ?_
   refine zwv (iN .i64 j) ?_
   refine zwu (run_quo (k := .i64) (a := j) (b := 8) (by omega) (by simp only [top]; omega)) ?_
   refine zwu (run_sidx (s := s) (a := j / 8) (by omega)) ?_
   refine zwv (iN .i64 j) ?_
   refine zwu (run_rem (k := .i64) (a := j) (b := 8) (by omega)) ?_
   refine zwu (run_shr (k2 := .i64) (k := .u8) (a := sb s (j / 8)) (b := j % 8) (show j % 8 ≤ 8 by omega)) ?_
   refine zwu (run_and8 (a := sb s (j / 8) / 2 ^ (j % 8)) (b := 1) (Nat.lt_of_le_of_lt (Nat.div_le_self _ _) (sb_lt s _))) ?_
   refine zwu (run_eqi (k := .u8) (a := sb s (j / 8) / 2 ^ (j % 8) &&& 1) (b := 1) true (decide_eq_true hbit)) ?_
   refine znt ?_
   refine zct ?_
   refine wl_region ?_
   refine wl_load h20 0 rfl Tryz.underlying51 rfl (info_rl _) ?_
   refine wl_load h20 2 rfl Tryz.underlying51 rfl (info_rl _) ?_
   refine zwc (v := rarr (mulP (mulP (pwr a s (j + 1)) (pwr a s (j + 1))) a)) (args := #[rarr (mulP (pwr a s (j + 1)) (pwr a s (j + 1))), rarr a]) h20 enter90 (rmul_any (mulP (pwr a s (j + 1)) (pwr a s (j + 1))) a (Nat.lt_trans (mulP_lt _ _) (by decide)) (Nat.lt_trans ha (by decide)) w19) ?_
   intro w21 h22
   refine wl_fill (c' := rl (mulP (mulP (pwr a s (j + 1)) (pwr a s (j + 1))) a)) h22 0 rfl (rl_sz _ _) (info_rl _) (one_rl _) ?_
   intro w23 (h24 : HA w [(q9, 51, rl (mulP (mulP (pwr a s (j + 1)) (pwr a s (j + 1))) a)), (q4, 51, rl 0), (q1, 51, rl a)] w23)
   refine wl_nil ?_
   refine block_normal ?_
   refine then_at rfl ?_
   refine wl_region ?_
   refine zwv (iN .i64 j) ?_
   refine zwu (run_dec (j := j) (by omega)) ?_
   refine zwv (dnv j) ?_
   refine wl_nil ?_
   exact then_I (zex ((by rw [← pwr_one a s j hbit]; exact h24)))
  · -- region 6
   refine wl_region ?_
   refine zwv (.string s) ?_
   refine zwv (iN .i64 j) ?_
   refine zwu (run_quo (k := .i64) (a := j) (b := 8) (by omega) (by simp only [top]; omega)) ?_
   refine zwu (run_sidx (s := s) (a := j / 8) (by omega)) ?_
   refine zwv (iN .i64 j) ?_
   refine zwu (run_rem (k := .i64) (a := j) (b := 8) (by omega)) ?_
   refine zwu (run_shr (k2 := .i64) (k := .u8) (a := sb s (j / 8)) (b := j % 8) (show j % 8 ≤ 8 by omega)) ?_
   refine zwu (run_and8 (a := sb s (j / 8) / 2 ^ (j % 8)) (b := 1) (Nat.lt_of_le_of_lt (Nat.div_le_self _ _) (sb_lt s _))) ?_
   refine zwu (run_eqi (k := .u8) (a := sb s (j / 8) / 2 ^ (j % 8) &&& 1) (b := 1) false (decide_eq_false hbit)) ?_
   refine zna ⟨(rarr a :: .string s :: pt q1 :: un :: pt q4 :: pt q9 :: iN .i64 j :: rarr 1 :: iN .i64 j :: .bool true :: u14 10 :: u14 11 :: rarr (pwr a s (j + 1)) :: rarr (pwr a s (j + 1)) :: rarr (mulP (pwr a s (j + 1)) (pwr a s (j + 1))) :: .string s :: iN .i64 j :: iN .i64 (j / 8) :: iN .u8 (sb s (j / 8)) :: iN .i64 j :: iN .i64 (j % 8) :: iN .u8 (sb s (j / 8) / 2 ^ (j % 8)) :: iN .u8 (sb s (j / 8) / 2 ^ (j % 8) &&& 1) :: .bool false :: u14 24 :: u14 25 :: u14 26 :: List.replicate 1 un).toArray, []⟩ ?_
   refine zcf ?_
   refine wp_skip ?_
   refine block_normal ?_
   refine then_at rfl ?_
   refine wl_region ?_
   refine zwv (iN .i64 j) ?_
   refine zwu (run_dec (j := j) (by omega)) ?_
   refine zwv (dnv j) ?_
   refine wl_nil ?_
   exact then_I (zex ((by rw [← pwr_nil a s j hbit]; exact h20)))
 ·rintro _ w25 ⟨u14, rfl, h26⟩
  refine wp_seq ?_
  refine zsr ?_
  refine zwv (dnv 0) ?_
  refine zwu (run_geq0 (k := .i64) (a := -1) (b := 0) false (by decide)) ?_
  refine znt ?_
  refine zcf ?_
  refine wp_exit ?_
  repeat first | refine then_exit ?_ | refine block_exit ?_ | refine block_exit_ne (by decide) ?_
  have h27 : HA w [(q9, 51, rl (pwr a s 0)), (q4, 51, rl 0), (q1, 51, rl a)] w25 := h26
  refine then_at rfl ?_
  refine zsr ?_
  refine wl_load h27 0 rfl Tryz.underlying51 rfl (info_rl _) ?_
  refine wl_fill (c' := rl (pwr a s 0)) h27 1 rfl (rl_sz _ _) (info_rl _) (one_rl _) ?_
  intro w28 (h29 : HA w [(q9, 51, rl (pwr a s 0)), (q4, 51, rl (pwr a s 0)), (q1, 51, rl a)] w28)
  refine znt ?_
  refine wp_ret ?_
  repeat first | refine then_ret ?_ | refine block_ret ?_
  exact bodyPost_ret (v := rarr (pwr a s 0)) (res_cell (p := 4) (by kernel_rfl) (by kernel_rfl) (h29.get 1 rfl) Tryz.underlying51 rfl (info_rl _)) rfl ⟨by rw [pwr_zero], h29.old⟩
theorem rpower_is (a E : Nat) (s : ByteArray) (ha : a < P) (hs : s.size = 32) (h : numS s = E) (w : World) : Calls Tryz.prog 119 #[rarr a, .string s] w fun e w' => e = .returned (rarr (a ^ E % P)) ∧ Below w.heap.size w w' := by
 have h1 := rpower_any a s ha hs w
 rw [h] at h1
 exact h1
theorem exp_inv : numS ⟨(endsL 235 127).toArray⟩ = P - 2 := by decide +kernel
theorem exp_root : numS ⟨(endsL 254 15).toArray⟩ = eighth := by decide +kernel
theorem exp_minus : numS ⟨(endsL 251 31).toArray⟩ = (P - 1) / 4 := by decide +kernel
theorem rinv_any (a : Nat) (ha : a < P) (w : World) : Calls Tryz.prog 81 #[rarr a] w fun e w' => e = .returned (rarr (invE a)) ∧ Below w.heap.size w w' := by
 have H0 := HA.start w
 go_enter Tryz.func81, Tryz.ntmps81
 refine zsr ?_
 refine wl_make H0 51 (run_box32 (c := rl a)) ?_
 intro q1 w2 h3
 refine wl_make h3 51 run_alloc32 ?_
 intro q4 w5 h6
 refine znt ?_
 refine wp_seq ?_
 refine zrg (fun _ : Nat → Nat => (⟨(rarr a :: pt q1 :: pt q4 :: rarr a :: .string ⟨(endsL 235 127).toArray⟩ :: rarr (invE a) :: List.replicate 0 un).toArray, []⟩ : Act)) (GF w [(q4, 51, rl 0), (q1, 51, rl a)] 3 2 0 q4 51 (rl (invE a))) (fun d hd => GF.start h6.drew (hd 3 (by decide))) ?_ ?_
 ·refine zg (gf_load2 1 rfl Tryz.underlying51 rfl (info_rl _)) ?_
  refine zg (gf_call (v := .string ⟨(endsL 235 127).toArray⟩) enter89 #[iN .u8 235, iN .u8 127] (fun w' => rexp_any 235 127 w')) ?_
  refine zg (gf_call (v := rarr (invE a)) enter88 #[rarr a, .string ⟨(endsL 235 127).toArray⟩] (fun w' => rpower_is a _ _ ha rfl exp_inv w')) ?_
  refine zg (gf_fill rfl (rl_sz _ _) (info_rl _) (one_rl _)) ?_
  exact AllGhost.nil
 intro _ w7 g8
 have h9 : HA w [(q4, 51, rl (invE a)), (q1, 51, rl a)] w7 := g8.held
 clear g8
 refine then_at rfl ?_
 refine wp_ret ?_
 repeat first | refine then_ret ?_ | refine block_ret ?_
 exact bodyPost_ret (res_cell (p := 2) (by kernel_rfl) (by kernel_rfl) (h9.get 0 rfl) Tryz.underlying51 rfl (info_rl _)) rfl ⟨rfl, h9.old⟩
end Go.Proofs.YtefjnfeckenmkaaGreatDoor

namespace Go.Proofs.YtefjnfeckenmkaaGreatDoor
open Go.RowKit Num
theorem two_root : 2 ^ ((P - 1) / 4) % P = rootI := by
 rw [← pm_eq P 256 2 ((P - 1) / 4) (by decide)]
 decide +kernel
theorem rpower_two (s : ByteArray) (hs : s.size = 32) (h : numS s = (P - 1) / 4) (w : World) : Calls Tryz.prog 119 #[rarr 2, .string s] w fun e w' => e = .returned (rarr rootI) ∧ Below w.heap.size w w' := by
 have h1 := rpower_is 2 _ s (by decide) hs h w
 rw [two_root] at h1
 exact h1
theorem run_ne32 {ρ : Operand → Value} {x y : Operand} (a b : Nat) {w : World} {dst : Option Tmp} {ty : TypeId} {pos : String} {aft : Array Edge} {gd : Option (Nat × Bool)} (ha : a < 65536 ^ 16) (hb : b < 65536 ^ 16)   (t : Bool) (ht : decide (a = b) = t) (hx : ρ x = rarr a := by kernel_rfl) (hy : ρ y = rarr b := by kernel_rfl) :
  (execOp ρ ⟨dst, .binOp .neq 51 x y 51, ty, pos, aft, gd⟩).run Tryz.prog w = .ok (.value (.bool (!t))) w := by
 have h := eq32 w (digs 65536 16 a) (digs 65536 16 b) (digs_length _ _ _) (digs_length _ _ _)
 rw [decide_eq_decide.2 (digs_eq a b ha hb), ht] at h
 have h2 : (Op.equalIn Op.maxDepth 51 (.agg (cl .u32 (digs 65536 16 a))) (.agg (cl .u32 (digs 65536 16 b)))).run Tryz.prog w = .ok t w := h
 simp only [execOp, hx, hy, rarr, rl]
 simp [binOp, go_sem, Op.equal, h2]
end Go.Proofs.YtefjnfeckenmkaaGreatDoor

namespace Go.Proofs.YtefjnfeckenmkaaGreatDoor
set_option linter.unusedVariables false
set_option maxRecDepth 100000
set_option maxHeartbeats 2000000
open Go.RowKit Num
theorem Of_yes (s : ByteArray) {n : Nat} (h : ofP s = some n) (w : World) (V : Vars w) :
  Calls Tryz.prog 44 #[.string s] w fun e w' => e = .returned (.tuple #[arr n, .bool true]) ∧ Below w.heap.size w w' := by
 have h1 := Of_any s w V
 rw [h] at h1
 exact h1
theorem Of_no (s : ByteArray) (h : ofP s = none) (w : World) (V : Vars w) :
  Calls Tryz.prog 44 #[.string s] w fun e w' => e = .returned (.tuple #[arr 0, .bool false]) ∧ Below w.heap.size w w' := by
 have h1 := Of_any s w V
 rw [h] at h1
 exact h1
theorem rodd_yes (n : Nat) (h : n % 2 = 1) (w : World) : Calls Tryz.prog 83 #[rarr n] w fun e w' => e = .returned (.bool true) ∧ Below w.heap.size w w' := by
 have h1 := rodd_any n w
 rw [decide_eq_true h] at h1
 exact h1
theorem rodd_no (n : Nat) (h : n % 2 = 0) (w : World) : Calls Tryz.prog 83 #[rarr n] w fun e w' => e = .returned (.bool false) ∧ Below w.heap.size w w' := by
 have h1 := rodd_any n w
 rw [decide_eq_false (by omega)] at h1
 exact h1
theorem numS_lt (s : ByteArray) (h : s.size = 32) : numS s % 65536 ^ 16 = numS s := by
 have h1 := num_lt 256 (bts s) (bts_lt s)
 rw [bts_length, h] at h1
 exact Nat.mod_eq_of_lt (Nat.lt_of_lt_of_le h1 (by decide))
theorem rr_1o (a t0 t1 ri : Nat) (ha : a < P) (ht0 : t0 < P) (ht1 : t1 < P) (hri : ri < P) (KP : ∀ w, Calls Tryz.prog 119 #[rarr a, .string ⟨(endsL 254 15).toArray⟩] w fun e w' => e = .returned (rarr t0) ∧ Below w.heap.size w w') (K2 : ∀ w, Calls Tryz.prog 119 #[rarr 2, .string ⟨(endsL 251 31).toArray⟩] w fun e w' => e = .returned (rarr ri) ∧ Below w.heap.size w w') (KT : ∀ w, Calls Tryz.prog 113 #[rarr t0, rarr ri] w fun e w' => e = .returned (rarr t1) ∧ Below w.heap.size w w') (hq1 : mulP t0 t0 = a) (hodd : (t0) % 2 = 1) (w : World) : Calls Tryz.prog 108 #[rarr a] w fun e w' => e = .returned (.tuple #[rarr (negP (t0)), .bool true]) ∧ Below w.heap.size w w' := by
 have H0 := HA.start w
 go_enter Tryz.func108, Tryz.ntmps108
 refine zsr ?_
 refine wl_make H0 51 (run_box32 (c := rl a)) ?_
 intro q1 w2 h3
 refine wl_make h3 51 run_alloc32 ?_
 intro q4 w5 h6
 refine zwv (.bool false) ?_
 refine znt ?_
 refine wp_seq ?_
 obtain ⟨B7, eB7⟩ : ∃ B, B = w5.heap.size := ⟨_, rfl⟩
 refine zrg (fun g : Nat → Nat => (⟨(rarr a :: pt q1 :: pt q4 :: .bool false :: pt (g 3) :: rarr a :: .string ⟨(endsL 254 15).toArray⟩ :: rarr t0 :: List.replicate 21 un).toArray, []⟩ : Act)) (GS w [(q4, 51, rl 0), (q1, 51, rl a)] B7 1 3 4 51 (rl 0) (fun j => rl ([t0].getD j t0))) (fun d hd => GS.start h6.drew eB7 (by decide) (fun _ _ => rfl) (fun j hj => hd j (Nat.lt_of_lt_of_le hj (by decide)))) ?_ ?_
 ·refine zg (ghost_load 1 rfl Tryz.underlying51 rfl (info_rl _)) ?_
  refine zg (ghost_call (v := .string ⟨(endsL 254 15).toArray⟩) enter89 #[iN .u8 254, iN .u8 15] (fun w' h' => rexp_any 254 15 w')) ?_
  refine zg (ghost_call (v := rarr t0) enter88 #[rarr a, .string ⟨(endsL 254 15).toArray⟩] (fun w' h' => KP w')) ?_
  refine zg (ghost_make 0 rfl (fun _ _ => run_alloc32)) ?_
  refine zg (ghost_fill 0 rfl (info_rl _) (one_rl _)) ?_
  exact AllGhost.nil
 intro g w8 g9
 have h10 : HA w [(g 3, 51, rl t0), (q4, 51, rl 0), (q1, 51, rl a)] w8 := g9.one
 clear g9 eB7
 generalize g 3 = q11 at h10 ⊢
 clear g
 refine then_at rfl ?_
 refine wp_seq ?_
 refine wp_seq ?_
 refine zrs ⟨(rarr a :: pt q1 :: pt q4 :: .bool false :: pt q11 :: rarr a :: .string ⟨(endsL 254 15).toArray⟩ :: rarr t0 :: rarr t0 :: rarr t0 :: rarr (mulP t0 t0) :: rarr a :: .bool false :: List.replicate 16 un).toArray, []⟩ (HA w [(q11, 51, rl t0), (q4, 51, rl 0), (q1, 51, rl a)]) h10.drew ?_ ?_
 ·refine zst (v := rarr t0) (fun _ h => run_load_blk (h.get 0 rfl) Tryz.underlying51 rfl (info_rl _)) ?_
  refine zst (v := rarr t0) (fun _ h => run_load_blk (h.get 0 rfl) Tryz.underlying51 rfl (info_rl _)) ?_
  refine zsc enter90 HA.keep (fun w' h' => rmul_any t0 t0 (Nat.lt_trans ht0 (by decide)) (Nat.lt_trans ht0 (by decide)) w') ?_
  refine zst (v := rarr a) (fun _ h => run_load_blk (h.get 2 rfl) Tryz.underlying51 rfl (info_rl _)) ?_
  refine zst (fun _ _ => (run_ne32 (mulP t0 t0) a (Nat.lt_trans (mulP_lt _ _) (by decide)) (Nat.lt_trans ha (by decide)) true (decide_eq_true hq1))) ?_
  exact AllSure.nil
 intro w12 h13
 refine then_at rfl ?_
 refine zcf ?_
 refine wp_skip ?_
 refine then_at rfl ?_
 refine wp_seq ?_
 refine wp_seq ?_
 refine zrs ⟨(rarr a :: pt q1 :: pt q4 :: .bool false :: pt q11 :: rarr a :: .string ⟨(endsL 254 15).toArray⟩ :: rarr t0 :: rarr t0 :: rarr t0 :: rarr (mulP t0 t0) :: rarr a :: .bool false :: un :: un :: un :: un :: un :: rarr t0 :: rarr t0 :: rarr (mulP t0 t0) :: rarr a :: .bool false :: List.replicate 6 un).toArray, []⟩ (HA w [(q11, 51, rl t0), (q4, 51, rl 0), (q1, 51, rl a)]) h13.drew ?_ ?_
 ·refine zst (v := rarr t0) (fun _ h => run_load_blk (h.get 0 rfl) Tryz.underlying51 rfl (info_rl _)) ?_
  refine zst (v := rarr t0) (fun _ h => run_load_blk (h.get 0 rfl) Tryz.underlying51 rfl (info_rl _)) ?_
  refine zsc enter90 HA.keep (fun w' h' => rmul_any t0 t0 (Nat.lt_trans ht0 (by decide)) (Nat.lt_trans ht0 (by decide)) w') ?_
  refine zst (v := rarr a) (fun _ h => run_load_blk (h.get 2 rfl) Tryz.underlying51 rfl (info_rl _)) ?_
  refine zst (fun _ _ => (run_ne32 (mulP t0 t0) a (Nat.lt_trans (mulP_lt _ _) (by decide)) (Nat.lt_trans ha (by decide)) true (decide_eq_true hq1))) ?_
  exact AllSure.nil
 intro w14 h15
 refine then_at rfl ?_
 refine zcf ?_
 refine wp_skip ?_
 refine then_at rfl ?_
 refine wp_seq ?_
 refine zsr ?_
 refine wl_load h15 0 rfl Tryz.underlying51 rfl (info_rl _) ?_
 refine zwc h15 enter53 (rodd_yes t0 hodd w14) ?_
 intro w16 h17
 refine znt ?_
 refine zct ?_
 refine wl_region ?_
 refine wl_load h17 0 rfl Tryz.underlying51 rfl (info_rl _) ?_
 refine zwc h17 enter60 (rneg_any (t0) ht0 w16) ?_
 intro w18 h19
 refine wl_fill (c' := rl (negP (t0))) h19 0 rfl (rl_sz _ _) (info_rl _) (one_rl _) ?_
 intro w20 (h21 : HA w [(q11, 51, rl (negP (t0))), (q4, 51, rl 0), (q1, 51, rl a)] w20)
 refine znt ?_
 refine zsr ?_
 refine wl_load h21 0 rfl Tryz.underlying51 rfl (info_rl _) ?_
 refine wl_fill (c' := rl (negP (t0))) h21 1 rfl (rl_sz _ _) (info_rl _) (one_rl _) ?_
 intro w22 (h23 : HA w [(q11, 51, rl (negP (t0))), (q4, 51, rl (negP (t0))), (q1, 51, rl a)] w22)
 refine zwv (.bool true) ?_
 refine znt ?_
 refine wp_ret ?_
 repeat first | refine then_ret ?_ | refine block_ret ?_
 exact bodyPost_ret (res_cell_tmp (p := 2) (r := 3) (by kernel_rfl) (by kernel_rfl) (by kernel_rfl) (h23.get 1 rfl) Tryz.underlying51 rfl (info_rl _)) rfl ⟨rfl, h23.old⟩
theorem rr_1e (a t0 t1 ri : Nat) (ha : a < P) (ht0 : t0 < P) (ht1 : t1 < P) (hri : ri < P) (KP : ∀ w, Calls Tryz.prog 119 #[rarr a, .string ⟨(endsL 254 15).toArray⟩] w fun e w' => e = .returned (rarr t0) ∧ Below w.heap.size w w') (K2 : ∀ w, Calls Tryz.prog 119 #[rarr 2, .string ⟨(endsL 251 31).toArray⟩] w fun e w' => e = .returned (rarr ri) ∧ Below w.heap.size w w') (KT : ∀ w, Calls Tryz.prog 113 #[rarr t0, rarr ri] w fun e w' => e = .returned (rarr t1) ∧ Below w.heap.size w w') (hq1 : mulP t0 t0 = a) (hodd : (t0) % 2 = 0) (w : World) : Calls Tryz.prog 108 #[rarr a] w fun e w' => e = .returned (.tuple #[rarr (t0), .bool true]) ∧ Below w.heap.size w w' := by
 have H0 := HA.start w
 go_enter Tryz.func108, Tryz.ntmps108
 refine zsr ?_
 refine wl_make H0 51 (run_box32 (c := rl a)) ?_
 intro q1 w2 h3
 refine wl_make h3 51 run_alloc32 ?_
 intro q4 w5 h6
 refine zwv (.bool false) ?_
 refine znt ?_
 refine wp_seq ?_
 obtain ⟨B7, eB7⟩ : ∃ B, B = w5.heap.size := ⟨_, rfl⟩
 refine zrg (fun g : Nat → Nat => (⟨(rarr a :: pt q1 :: pt q4 :: .bool false :: pt (g 3) :: rarr a :: .string ⟨(endsL 254 15).toArray⟩ :: rarr t0 :: List.replicate 21 un).toArray, []⟩ : Act)) (GS w [(q4, 51, rl 0), (q1, 51, rl a)] B7 1 3 4 51 (rl 0) (fun j => rl ([t0].getD j t0))) (fun d hd => GS.start h6.drew eB7 (by decide) (fun _ _ => rfl) (fun j hj => hd j (Nat.lt_of_lt_of_le hj (by decide)))) ?_ ?_
 ·refine zg (ghost_load 1 rfl Tryz.underlying51 rfl (info_rl _)) ?_
  refine zg (ghost_call (v := .string ⟨(endsL 254 15).toArray⟩) enter89 #[iN .u8 254, iN .u8 15] (fun w' h' => rexp_any 254 15 w')) ?_
  refine zg (ghost_call (v := rarr t0) enter88 #[rarr a, .string ⟨(endsL 254 15).toArray⟩] (fun w' h' => KP w')) ?_
  refine zg (ghost_make 0 rfl (fun _ _ => run_alloc32)) ?_
  refine zg (ghost_fill 0 rfl (info_rl _) (one_rl _)) ?_
  exact AllGhost.nil
 intro g w8 g9
 have h10 : HA w [(g 3, 51, rl t0), (q4, 51, rl 0), (q1, 51, rl a)] w8 := g9.one
 clear g9 eB7
 generalize g 3 = q11 at h10 ⊢
 clear g
 refine then_at rfl ?_
 refine wp_seq ?_
 refine wp_seq ?_
 refine zrs ⟨(rarr a :: pt q1 :: pt q4 :: .bool false :: pt q11 :: rarr a :: .string ⟨(endsL 254 15).toArray⟩ :: rarr t0 :: rarr t0 :: rarr t0 :: rarr (mulP t0 t0) :: rarr a :: .bool false :: List.replicate 16 un).toArray, []⟩ (HA w [(q11, 51, rl t0), (q4, 51, rl 0), (q1, 51, rl a)]) h10.drew ?_ ?_
 ·refine zst (v := rarr t0) (fun _ h => run_load_blk (h.get 0 rfl) Tryz.underlying51 rfl (info_rl _)) ?_
  refine zst (v := rarr t0) (fun _ h => run_load_blk (h.get 0 rfl) Tryz.underlying51 rfl (info_rl _)) ?_
  refine zsc enter90 HA.keep (fun w' h' => rmul_any t0 t0 (Nat.lt_trans ht0 (by decide)) (Nat.lt_trans ht0 (by decide)) w') ?_
  refine zst (v := rarr a) (fun _ h => run_load_blk (h.get 2 rfl) Tryz.underlying51 rfl (info_rl _)) ?_
  refine zst (fun _ _ => (run_ne32 (mulP t0 t0) a (Nat.lt_trans (mulP_lt _ _) (by decide)) (Nat.lt_trans ha (by decide)) true (decide_eq_true hq1))) ?_
  exact AllSure.nil
 intro w12 h13
 refine then_at rfl ?_
 refine zcf ?_
 refine wp_skip ?_
 refine then_at rfl ?_
 refine wp_seq ?_
 refine wp_seq ?_
 refine zrs ⟨(rarr a :: pt q1 :: pt q4 :: .bool false :: pt q11 :: rarr a :: .string ⟨(endsL 254 15).toArray⟩ :: rarr t0 :: rarr t0 :: rarr t0 :: rarr (mulP t0 t0) :: rarr a :: .bool false :: un :: un :: un :: un :: un :: rarr t0 :: rarr t0 :: rarr (mulP t0 t0) :: rarr a :: .bool false :: List.replicate 6 un).toArray, []⟩ (HA w [(q11, 51, rl t0), (q4, 51, rl 0), (q1, 51, rl a)]) h13.drew ?_ ?_
 ·refine zst (v := rarr t0) (fun _ h => run_load_blk (h.get 0 rfl) Tryz.underlying51 rfl (info_rl _)) ?_
  refine zst (v := rarr t0) (fun _ h => run_load_blk (h.get 0 rfl) Tryz.underlying51 rfl (info_rl _)) ?_
  refine zsc enter90 HA.keep (fun w' h' => rmul_any t0 t0 (Nat.lt_trans ht0 (by decide)) (Nat.lt_trans ht0 (by decide)) w') ?_
  refine zst (v := rarr a) (fun _ h => run_load_blk (h.get 2 rfl) Tryz.underlying51 rfl (info_rl _)) ?_
  refine zst (fun _ _ => (run_ne32 (mulP t0 t0) a (Nat.lt_trans (mulP_lt _ _) (by decide)) (Nat.lt_trans ha (by decide)) true (decide_eq_true hq1))) ?_
  exact AllSure.nil
 intro w14 h15
 refine then_at rfl ?_
 refine zcf ?_
 refine wp_skip ?_
 refine then_at rfl ?_
 refine wp_seq ?_
 refine zsr ?_
 refine wl_load h15 0 rfl Tryz.underlying51 rfl (info_rl _) ?_
 refine zwc h15 enter53 (rodd_no t0 hodd w14) ?_
 intro w16 h17
 refine znt ?_
 refine zcf ?_
 refine wp_skip ?_
 refine then_at rfl ?_
 refine zsr ?_
 refine wl_load h17 0 rfl Tryz.underlying51 rfl (info_rl _) ?_
 refine wl_fill (c' := rl t0) h17 1 rfl (rl_sz _ _) (info_rl _) (one_rl _) ?_
 intro w18 (h19 : HA w [(q11, 51, rl t0), (q4, 51, rl t0), (q1, 51, rl a)] w18)
 refine zwv (.bool true) ?_
 refine znt ?_
 refine wp_ret ?_
 repeat first | refine then_ret ?_ | refine block_ret ?_
 exact bodyPost_ret (res_cell_tmp (p := 2) (r := 3) (by kernel_rfl) (by kernel_rfl) (by kernel_rfl) (h19.get 1 rfl) Tryz.underlying51 rfl (info_rl _)) rfl ⟨rfl, h19.old⟩
theorem rr_2o (a t0 t1 ri : Nat) (ha : a < P) (ht0 : t0 < P) (ht1 : t1 < P) (hri : ri < P) (KP : ∀ w, Calls Tryz.prog 119 #[rarr a, .string ⟨(endsL 254 15).toArray⟩] w fun e w' => e = .returned (rarr t0) ∧ Below w.heap.size w w') (K2 : ∀ w, Calls Tryz.prog 119 #[rarr 2, .string ⟨(endsL 251 31).toArray⟩] w fun e w' => e = .returned (rarr ri) ∧ Below w.heap.size w w') (KT : ∀ w, Calls Tryz.prog 113 #[rarr t0, rarr ri] w fun e w' => e = .returned (rarr t1) ∧ Below w.heap.size w w') (hq1 : ¬ mulP t0 t0 = a) (hq2 : mulP t1 t1 = a) (hodd : (t1) % 2 = 1) (w : World) : Calls Tryz.prog 108 #[rarr a] w fun e w' => e = .returned (.tuple #[rarr (negP (t1)), .bool true]) ∧ Below w.heap.size w w' := by
 have H0 := HA.start w
 go_enter Tryz.func108, Tryz.ntmps108
 refine zsr ?_
 refine wl_make H0 51 (run_box32 (c := rl a)) ?_
 intro q1 w2 h3
 refine wl_make h3 51 run_alloc32 ?_
 intro q4 w5 h6
 refine zwv (.bool false) ?_
 refine znt ?_
 refine wp_seq ?_
 obtain ⟨B7, eB7⟩ : ∃ B, B = w5.heap.size := ⟨_, rfl⟩
 refine zrg (fun g : Nat → Nat => (⟨(rarr a :: pt q1 :: pt q4 :: .bool false :: pt (g 3) :: rarr a :: .string ⟨(endsL 254 15).toArray⟩ :: rarr t0 :: List.replicate 21 un).toArray, []⟩ : Act)) (GS w [(q4, 51, rl 0), (q1, 51, rl a)] B7 1 3 4 51 (rl 0) (fun j => rl ([t0].getD j t0))) (fun d hd => GS.start h6.drew eB7 (by decide) (fun _ _ => rfl) (fun j hj => hd j (Nat.lt_of_lt_of_le hj (by decide)))) ?_ ?_
 ·refine zg (ghost_load 1 rfl Tryz.underlying51 rfl (info_rl _)) ?_
  refine zg (ghost_call (v := .string ⟨(endsL 254 15).toArray⟩) enter89 #[iN .u8 254, iN .u8 15] (fun w' h' => rexp_any 254 15 w')) ?_
  refine zg (ghost_call (v := rarr t0) enter88 #[rarr a, .string ⟨(endsL 254 15).toArray⟩] (fun w' h' => KP w')) ?_
  refine zg (ghost_make 0 rfl (fun _ _ => run_alloc32)) ?_
  refine zg (ghost_fill 0 rfl (info_rl _) (one_rl _)) ?_
  exact AllGhost.nil
 intro g w8 g9
 have h10 : HA w [(g 3, 51, rl t0), (q4, 51, rl 0), (q1, 51, rl a)] w8 := g9.one
 clear g9 eB7
 generalize g 3 = q11 at h10 ⊢
 clear g
 refine then_at rfl ?_
 refine wp_seq ?_
 refine wp_seq ?_
 refine zrs ⟨(rarr a :: pt q1 :: pt q4 :: .bool false :: pt q11 :: rarr a :: .string ⟨(endsL 254 15).toArray⟩ :: rarr t0 :: rarr t0 :: rarr t0 :: rarr (mulP t0 t0) :: rarr a :: .bool true :: List.replicate 16 un).toArray, []⟩ (HA w [(q11, 51, rl t0), (q4, 51, rl 0), (q1, 51, rl a)]) h10.drew ?_ ?_
 ·refine zst (v := rarr t0) (fun _ h => run_load_blk (h.get 0 rfl) Tryz.underlying51 rfl (info_rl _)) ?_
  refine zst (v := rarr t0) (fun _ h => run_load_blk (h.get 0 rfl) Tryz.underlying51 rfl (info_rl _)) ?_
  refine zsc enter90 HA.keep (fun w' h' => rmul_any t0 t0 (Nat.lt_trans ht0 (by decide)) (Nat.lt_trans ht0 (by decide)) w') ?_
  refine zst (v := rarr a) (fun _ h => run_load_blk (h.get 2 rfl) Tryz.underlying51 rfl (info_rl _)) ?_
  refine zst (fun _ _ => (run_ne32 (mulP t0 t0) a (Nat.lt_trans (mulP_lt _ _) (by decide)) (Nat.lt_trans ha (by decide)) false (decide_eq_false hq1))) ?_
  exact AllSure.nil
 intro w12 h13
 refine then_at rfl ?_
 refine zct ?_
 refine zrg (fun _ : Nat → Nat => (⟨(rarr a :: pt q1 :: pt q4 :: .bool false :: pt q11 :: rarr a :: .string ⟨(endsL 254 15).toArray⟩ :: rarr t0 :: rarr t0 :: rarr t0 :: rarr (mulP t0 t0) :: rarr a :: .bool true :: rarr t0 :: rarr 2 :: .string ⟨(endsL 251 31).toArray⟩ :: rarr ri :: rarr t1 :: List.replicate 11 un).toArray, []⟩ : Act)) (GF w [(q11, 51, rl t0), (q4, 51, rl 0), (q1, 51, rl a)] 5 0 0 q11 51 (rl t1)) (fun d hd => GF.start h13.drew (hd 5 (by decide))) ?_ ?_
 ·refine zg (gf_load 0 rfl Tryz.underlying51 rfl (info_rl _)) ?_
  refine zg (gf_call (v := rarr 2) enter97 #[iN .u32 2] (fun w' => rsmall_any 2 (by decide) w')) ?_
  refine zg (gf_call (v := .string ⟨(endsL 251 31).toArray⟩) enter89 #[iN .u8 251, iN .u8 31] (fun w' => rexp_any 251 31 w')) ?_
  refine zg (gf_call (v := rarr ri) enter88 #[rarr 2, .string ⟨(endsL 251 31).toArray⟩] (fun w' => K2 w')) ?_
  refine zg (gf_call (v := rarr t1) enter90 #[rarr t0, rarr ri] (fun w' => KT w')) ?_
  refine zg (gf_fill rfl (rl_sz _ _) (info_rl _) (one_rl _)) ?_
  exact AllGhost.nil
 intro _ w14 g15
 have h16 : HA w [(q11, 51, rl t1), (q4, 51, rl 0), (q1, 51, rl a)] w14 := g15.held
 clear g15
 refine then_at rfl ?_
 refine wp_seq ?_
 refine wp_seq ?_
 refine zrs ⟨(rarr a :: pt q1 :: pt q4 :: .bool false :: pt q11 :: rarr a :: .string ⟨(endsL 254 15).toArray⟩ :: rarr t0 :: rarr t0 :: rarr t0 :: rarr (mulP t0 t0) :: rarr a :: .bool true :: rarr t0 :: rarr 2 :: .string ⟨(endsL 251 31).toArray⟩ :: rarr ri :: rarr t1 :: rarr t1 :: rarr t1 :: rarr (mulP t1 t1) :: rarr a :: .bool false :: List.replicate 6 un).toArray, []⟩ (HA w [(q11, 51, rl t1), (q4, 51, rl 0), (q1, 51, rl a)]) h16.drew ?_ ?_
 ·refine zst (v := rarr t1) (fun _ h => run_load_blk (h.get 0 rfl) Tryz.underlying51 rfl (info_rl _)) ?_
  refine zst (v := rarr t1) (fun _ h => run_load_blk (h.get 0 rfl) Tryz.underlying51 rfl (info_rl _)) ?_
  refine zsc enter90 HA.keep (fun w' h' => rmul_any t1 t1 (Nat.lt_trans ht1 (by decide)) (Nat.lt_trans ht1 (by decide)) w') ?_
  refine zst (v := rarr a) (fun _ h => run_load_blk (h.get 2 rfl) Tryz.underlying51 rfl (info_rl _)) ?_
  refine zst (fun _ _ => (run_ne32 (mulP t1 t1) a (Nat.lt_trans (mulP_lt _ _) (by decide)) (Nat.lt_trans ha (by decide)) true (decide_eq_true hq2))) ?_
  exact AllSure.nil
 intro w17 h18
 refine then_at rfl ?_
 refine zcf ?_
 refine wp_skip ?_
 refine then_at rfl ?_
 refine wp_seq ?_
 refine zsr ?_
 refine wl_load h18 0 rfl Tryz.underlying51 rfl (info_rl _) ?_
 refine zwc h18 enter53 (rodd_yes t1 hodd w17) ?_
 intro w19 h20
 refine znt ?_
 refine zct ?_
 refine wl_region ?_
 refine wl_load h20 0 rfl Tryz.underlying51 rfl (info_rl _) ?_
 refine zwc h20 enter60 (rneg_any (t1) ht1 w19) ?_
 intro w21 h22
 refine wl_fill (c' := rl (negP (t1))) h22 0 rfl (rl_sz _ _) (info_rl _) (one_rl _) ?_
 intro w23 (h24 : HA w [(q11, 51, rl (negP (t1))), (q4, 51, rl 0), (q1, 51, rl a)] w23)
 refine znt ?_
 refine zsr ?_
 refine wl_load h24 0 rfl Tryz.underlying51 rfl (info_rl _) ?_
 refine wl_fill (c' := rl (negP (t1))) h24 1 rfl (rl_sz _ _) (info_rl _) (one_rl _) ?_
 intro w25 (h26 : HA w [(q11, 51, rl (negP (t1))), (q4, 51, rl (negP (t1))), (q1, 51, rl a)] w25)
 refine zwv (.bool true) ?_
 refine znt ?_
 refine wp_ret ?_
 repeat first | refine then_ret ?_ | refine block_ret ?_
 exact bodyPost_ret (res_cell_tmp (p := 2) (r := 3) (by kernel_rfl) (by kernel_rfl) (by kernel_rfl) (h26.get 1 rfl) Tryz.underlying51 rfl (info_rl _)) rfl ⟨rfl, h26.old⟩
theorem rr_2e (a t0 t1 ri : Nat) (ha : a < P) (ht0 : t0 < P) (ht1 : t1 < P) (hri : ri < P) (KP : ∀ w, Calls Tryz.prog 119 #[rarr a, .string ⟨(endsL 254 15).toArray⟩] w fun e w' => e = .returned (rarr t0) ∧ Below w.heap.size w w') (K2 : ∀ w, Calls Tryz.prog 119 #[rarr 2, .string ⟨(endsL 251 31).toArray⟩] w fun e w' => e = .returned (rarr ri) ∧ Below w.heap.size w w') (KT : ∀ w, Calls Tryz.prog 113 #[rarr t0, rarr ri] w fun e w' => e = .returned (rarr t1) ∧ Below w.heap.size w w') (hq1 : ¬ mulP t0 t0 = a) (hq2 : mulP t1 t1 = a) (hodd : (t1) % 2 = 0) (w : World) : Calls Tryz.prog 108 #[rarr a] w fun e w' => e = .returned (.tuple #[rarr (t1), .bool true]) ∧ Below w.heap.size w w' := by
 have H0 := HA.start w
 go_enter Tryz.func108, Tryz.ntmps108
 refine zsr ?_
 refine wl_make H0 51 (run_box32 (c := rl a)) ?_
 intro q1 w2 h3
 refine wl_make h3 51 run_alloc32 ?_
 intro q4 w5 h6
 refine zwv (.bool false) ?_
 refine znt ?_
 refine wp_seq ?_
 obtain ⟨B7, eB7⟩ : ∃ B, B = w5.heap.size := ⟨_, rfl⟩
 refine zrg (fun g : Nat → Nat => (⟨(rarr a :: pt q1 :: pt q4 :: .bool false :: pt (g 3) :: rarr a :: .string ⟨(endsL 254 15).toArray⟩ :: rarr t0 :: List.replicate 21 un).toArray, []⟩ : Act)) (GS w [(q4, 51, rl 0), (q1, 51, rl a)] B7 1 3 4 51 (rl 0) (fun j => rl ([t0].getD j t0))) (fun d hd => GS.start h6.drew eB7 (by decide) (fun _ _ => rfl) (fun j hj => hd j (Nat.lt_of_lt_of_le hj (by decide)))) ?_ ?_
 ·refine zg (ghost_load 1 rfl Tryz.underlying51 rfl (info_rl _)) ?_
  refine zg (ghost_call (v := .string ⟨(endsL 254 15).toArray⟩) enter89 #[iN .u8 254, iN .u8 15] (fun w' h' => rexp_any 254 15 w')) ?_
  refine zg (ghost_call (v := rarr t0) enter88 #[rarr a, .string ⟨(endsL 254 15).toArray⟩] (fun w' h' => KP w')) ?_
  refine zg (ghost_make 0 rfl (fun _ _ => run_alloc32)) ?_
  refine zg (ghost_fill 0 rfl (info_rl _) (one_rl _)) ?_
  exact AllGhost.nil
 intro g w8 g9
 have h10 : HA w [(g 3, 51, rl t0), (q4, 51, rl 0), (q1, 51, rl a)] w8 := g9.one
 clear g9 eB7
 generalize g 3 = q11 at h10 ⊢
 clear g
 refine then_at rfl ?_
 refine wp_seq ?_
 refine wp_seq ?_
 refine zrs ⟨(rarr a :: pt q1 :: pt q4 :: .bool false :: pt q11 :: rarr a :: .string ⟨(endsL 254 15).toArray⟩ :: rarr t0 :: rarr t0 :: rarr t0 :: rarr (mulP t0 t0) :: rarr a :: .bool true :: List.replicate 16 un).toArray, []⟩ (HA w [(q11, 51, rl t0), (q4, 51, rl 0), (q1, 51, rl a)]) h10.drew ?_ ?_
 ·refine zst (v := rarr t0) (fun _ h => run_load_blk (h.get 0 rfl) Tryz.underlying51 rfl (info_rl _)) ?_
  refine zst (v := rarr t0) (fun _ h => run_load_blk (h.get 0 rfl) Tryz.underlying51 rfl (info_rl _)) ?_
  refine zsc enter90 HA.keep (fun w' h' => rmul_any t0 t0 (Nat.lt_trans ht0 (by decide)) (Nat.lt_trans ht0 (by decide)) w') ?_
  refine zst (v := rarr a) (fun _ h => run_load_blk (h.get 2 rfl) Tryz.underlying51 rfl (info_rl _)) ?_
  refine zst (fun _ _ => (run_ne32 (mulP t0 t0) a (Nat.lt_trans (mulP_lt _ _) (by decide)) (Nat.lt_trans ha (by decide)) false (decide_eq_false hq1))) ?_
  exact AllSure.nil
 intro w12 h13
 refine then_at rfl ?_
 refine zct ?_
 refine zrg (fun _ : Nat → Nat => (⟨(rarr a :: pt q1 :: pt q4 :: .bool false :: pt q11 :: rarr a :: .string ⟨(endsL 254 15).toArray⟩ :: rarr t0 :: rarr t0 :: rarr t0 :: rarr (mulP t0 t0) :: rarr a :: .bool true :: rarr t0 :: rarr 2 :: .string ⟨(endsL 251 31).toArray⟩ :: rarr ri :: rarr t1 :: List.replicate 11 un).toArray, []⟩ : Act)) (GF w [(q11, 51, rl t0), (q4, 51, rl 0), (q1, 51, rl a)] 5 0 0 q11 51 (rl t1)) (fun d hd => GF.start h13.drew (hd 5 (by decide))) ?_ ?_
 ·refine zg (gf_load 0 rfl Tryz.underlying51 rfl (info_rl _)) ?_
  refine zg (gf_call (v := rarr 2) enter97 #[iN .u32 2] (fun w' => rsmall_any 2 (by decide) w')) ?_
  refine zg (gf_call (v := .string ⟨(endsL 251 31).toArray⟩) enter89 #[iN .u8 251, iN .u8 31] (fun w' => rexp_any 251 31 w')) ?_
  refine zg (gf_call (v := rarr ri) enter88 #[rarr 2, .string ⟨(endsL 251 31).toArray⟩] (fun w' => K2 w')) ?_
  refine zg (gf_call (v := rarr t1) enter90 #[rarr t0, rarr ri] (fun w' => KT w')) ?_
  refine zg (gf_fill rfl (rl_sz _ _) (info_rl _) (one_rl _)) ?_
  exact AllGhost.nil
 intro _ w14 g15
 have h16 : HA w [(q11, 51, rl t1), (q4, 51, rl 0), (q1, 51, rl a)] w14 := g15.held
 clear g15
 refine then_at rfl ?_
 refine wp_seq ?_
 refine wp_seq ?_
 refine zrs ⟨(rarr a :: pt q1 :: pt q4 :: .bool false :: pt q11 :: rarr a :: .string ⟨(endsL 254 15).toArray⟩ :: rarr t0 :: rarr t0 :: rarr t0 :: rarr (mulP t0 t0) :: rarr a :: .bool true :: rarr t0 :: rarr 2 :: .string ⟨(endsL 251 31).toArray⟩ :: rarr ri :: rarr t1 :: rarr t1 :: rarr t1 :: rarr (mulP t1 t1) :: rarr a :: .bool false :: List.replicate 6 un).toArray, []⟩ (HA w [(q11, 51, rl t1), (q4, 51, rl 0), (q1, 51, rl a)]) h16.drew ?_ ?_
 ·refine zst (v := rarr t1) (fun _ h => run_load_blk (h.get 0 rfl) Tryz.underlying51 rfl (info_rl _)) ?_
  refine zst (v := rarr t1) (fun _ h => run_load_blk (h.get 0 rfl) Tryz.underlying51 rfl (info_rl _)) ?_
  refine zsc enter90 HA.keep (fun w' h' => rmul_any t1 t1 (Nat.lt_trans ht1 (by decide)) (Nat.lt_trans ht1 (by decide)) w') ?_
  refine zst (v := rarr a) (fun _ h => run_load_blk (h.get 2 rfl) Tryz.underlying51 rfl (info_rl _)) ?_
  refine zst (fun _ _ => (run_ne32 (mulP t1 t1) a (Nat.lt_trans (mulP_lt _ _) (by decide)) (Nat.lt_trans ha (by decide)) true (decide_eq_true hq2))) ?_
  exact AllSure.nil
 intro w17 h18
 refine then_at rfl ?_
 refine zcf ?_
 refine wp_skip ?_
 refine then_at rfl ?_
 refine wp_seq ?_
 refine zsr ?_
 refine wl_load h18 0 rfl Tryz.underlying51 rfl (info_rl _) ?_
 refine zwc h18 enter53 (rodd_no t1 hodd w17) ?_
 intro w19 h20
 refine znt ?_
 refine zcf ?_
 refine wp_skip ?_
 refine then_at rfl ?_
 refine zsr ?_
 refine wl_load h20 0 rfl Tryz.underlying51 rfl (info_rl _) ?_
 refine wl_fill (c' := rl t1) h20 1 rfl (rl_sz _ _) (info_rl _) (one_rl _) ?_
 intro w21 (h22 : HA w [(q11, 51, rl t1), (q4, 51, rl t1), (q1, 51, rl a)] w21)
 refine zwv (.bool true) ?_
 refine znt ?_
 refine wp_ret ?_
 repeat first | refine then_ret ?_ | refine block_ret ?_
 exact bodyPost_ret (res_cell_tmp (p := 2) (r := 3) (by kernel_rfl) (by kernel_rfl) (by kernel_rfl) (h22.get 1 rfl) Tryz.underlying51 rfl (info_rl _)) rfl ⟨rfl, h22.old⟩
theorem rp_try0 (a : Nat) (ha : a < P) (w : World) : Calls Tryz.prog 119 #[rarr a, .string ⟨(endsL 254 15).toArray⟩] w fun e w' => e = .returned (rarr (try0 a)) ∧ Below w.heap.size w w' := by
 unfold try0
 exact rpower_is a eighth _ ha rfl exp_root w
theorem rp_try1 (a : Nat) (w : World) : Calls Tryz.prog 113 #[rarr (try0 a), rarr rootI] w fun e w' => e = .returned (rarr (try1 a)) ∧ Below w.heap.size w w' := by
 have h := rmul_any (try0 a) rootI (Nat.lt_trans (try0_lt a) (by decide)) (by decide) w
 unfold mulP at h
 unfold try1
 exact h
theorem rroot_yes (a r : Nat) (ha : a < P) (h : rootP a = some r) (w : World) : Calls Tryz.prog 108 #[rarr a] w fun e w' => e = .returned (.tuple #[rarr r, .bool true]) ∧ Below w.heap.size w w' := by
 unfold rootP at h
 split at h
 ·rename_i hB
  have hr := Option.some.inj h
  rw [← hr]
  unfold rootB at hB ⊢
  by_cases hq1 : try0 a * try0 a % P = a
  ·rw [if_pos hq1]
   rcases Nat.mod_two_eq_zero_or_one (try0 a) with ho | ho
   ·rw [if_neg (by omega)]; exact rr_1e a (try0 a) (try1 a) rootI ha (try0_lt a) (try1_lt a) (by decide) (rp_try0 a ha) (rpower_two _ rfl exp_minus) (rp_try1 a) hq1 ho w
   ·rw [if_pos ho]; exact rr_1o a (try0 a) (try1 a) rootI ha (try0_lt a) (try1_lt a) (by decide) (rp_try0 a ha) (rpower_two _ rfl exp_minus) (rp_try1 a) hq1 ho w
  ·rw [if_neg hq1] at hB ⊢
   rcases Nat.mod_two_eq_zero_or_one (try1 a) with ho | ho
   ·rw [if_neg (by omega)]; exact rr_2e a (try0 a) (try1 a) rootI ha (try0_lt a) (try1_lt a) (by decide) (rp_try0 a ha) (rpower_two _ rfl exp_minus) (rp_try1 a) hq1 hB ho w
   ·rw [if_pos ho]; exact rr_2o a (try0 a) (try1 a) rootI ha (try0_lt a) (try1_lt a) (by decide) (rp_try0 a ha) (rpower_two _ rfl exp_minus) (rp_try1 a) hq1 hB ho w
 ·cases h
end Go.Proofs.YtefjnfeckenmkaaGreatDoor
