/-
 scalar, in the curve's seat: Prod.
-/
import Derived.Test.YtefjnfeckenmkaaGreatDoorS0
import Derived.Lib.AppendStr
import Derived.Deep.OwnRows
namespace Go.Proofs.YtefjnfeckenmkaaGreatDoor.Sc
set_option linter.unusedVariables false
set_option maxRecDepth 100000
set_option maxHeartbeats 2000000
open Go.RowKit Num
theorem step_below (a b c d : Nat) (ha : a < 18446744073709551616) (hb : b < 18446744073709551616) (hc : c < 18446744073709551616) (hd : d < 18446744073709551616) (w : World) :
  Calls Tryz.prog 99 #[iN .u64 a, iN .u64 b, iN .u64 c, iN .u64 d] w fun e w' => e = .returned (.tuple #[iN .u64 ((a * b + c + d) / 18446744073709551616), iN .u64 ((a * b + c + d) % 18446744073709551616)]) ∧ Below w.heap.size w w' :=
 (step_any a b c d ha hb hc hd w).mono fun e w' h => ⟨h.1, by rw [h.2]; exact Below.refl _ w⟩
theorem low_row (a b k : Nat) (hb : b < K ^ 4) : a % K ^ k * b < K ^ (k + 4) := by
 rw [Nat.pow_add]
 exact Nat.mul_lt_mul'' (Nat.mod_lt _ (Nat.pow_pos (by decide))) hb
theorem mul_start (a b k : Nat) : a % K ^ k * b + 0 * K ^ (k + 0) = a % K ^ k * b + (a / K ^ k % K) * (b % K ^ 0) * K ^ k := by
 rw [Nat.zero_mul, Nat.pow_zero, Nat.mod_one, Nat.mul_zero, Nat.zero_mul]
theorem high_words (n : Nat) : ∀ k, k < 4 → (el8 n)[4 + k]? = (el (n / K ^ 4))[k]? := fun k hk => by
 rw [el8_get n (4 + k) (by omega), el_get _ k hk, Nat.pow_add, Nat.div_div_eq_div_mul]
theorem low_words (n : Nat) : ∀ k, k < 4 → (el8 n)[0 + k]? = (el n)[k]? := fun k hk => by
 rw [Nat.zero_add, el8_get n k (by omega), el_get _ k hk]
def zScC_0 (a : Nat) (b : Nat) q1 q4 q7 q10 q13 (u16 : Nat → Value) q31 q34 (zt : List Value) := (arr a :: arr b :: pt q1 :: pt q4 :: pt q7 :: pt q10 :: pt q13 :: u16 7 :: u16 8 :: u16 9 :: pt q31 :: pt q34 :: iN .i64 4 :: .bool false :: u16 14 :: u16 15 :: u16 16 :: u16 17 :: u16 18 :: u16 19 :: u16 20 :: u16 21 :: u16 22 :: u16 23 :: u16 24 :: u16 25 :: u16 26 :: u16 27 :: u16 28 :: u16 29 :: u16 30 :: u16 31 :: u16 32 :: u16 33 :: u16 34 :: u16 35 :: u16 36 :: u16 37 :: u16 38 :: u16 39 :: u16 40 :: u16 41 :: u16 42 :: u16 43 :: .slice (some ⟨q31, 0, none⟩) 4 4 :: .slice (some ⟨q13, 4, none⟩) 4 4 :: iN .i64 4 :: zt : List Value)
theorem product_any (a b : Nat) (ha : a < K ^ 4) (hb : b < K ^ 4) (w : World) :
  Calls Tryz.prog 59 #[arr a, arr b] w fun e w' => e = .returned (.tuple #[arr (a * b / K ^ 4), arr (a * b)]) ∧ Below w.heap.size w w' := by
 have H0 := HA.start w
 go_enter Tryz.func59, Tryz.ntmps59
 refine zsr ?_
 refine wl_make H0 73 (run_box34 (c := el a) (by kernel_rfl)) ?_
 intro q1 w2 h3
 refine wl_make h3 73 (run_box34 (c := el b) (by kernel_rfl)) ?_
 intro q4 w5 h6
 refine wl_make h6 73 run_alloc34 ?_
 intro q7 w8 h9
 refine wl_make h9 73 run_alloc34 ?_
 intro q10 w11 h12
 refine znt ?_
 refine zsr ?_
 refine wl_make h12 107 run_alloc61 ?_
 intro q13 w14 h15
 refine znt ?_
 refine wp_seq ?_
 refine zsr ?_
 refine zwv (iN .i64 0) ?_
 refine znt ?_
 refine wp_block ?_
 refine wp_count (fun k A w' => ∃ u16 : Nat → Value, A = ⟨(arr a :: arr b :: pt q1 :: pt q4 :: pt q7 :: pt q10 :: pt q13 :: u16 7 :: u16 8 :: u16 9 :: un :: un :: iN .i64 k :: u16 13 :: u16 14 :: u16 15 :: u16 16 :: u16 17 :: u16 18 :: u16 19 :: u16 20 :: u16 21 :: u16 22 :: u16 23 :: u16 24 :: u16 25 :: u16 26 :: u16 27 :: u16 28 :: u16 29 :: u16 30 :: u16 31 :: u16 32 :: u16 33 :: u16 34 :: u16 35 :: u16 36 :: u16 37 :: u16 38 :: u16 39 :: u16 40 :: u16 41 :: u16 42 :: u16 43 :: List.replicate 8 un).toArray, []⟩ ∧ HA w [(q13, 107, el8 (a % K ^ k * b)), (q10, 73, el 0), (q7, 73, el 0), (q4, 73, el b), (q1, 73, el a)] w') 4 ?_ ?_ ?_
 ·exact zex ((by rw [Nat.pow_zero, Nat.mod_one, Nat.zero_mul]; exact h15))
 ·rintro k hk _ w17 ⟨u16, rfl, h18⟩
  have hlow0 := low_row a b k hb
  refine zsr ?_
  refine zwu (run_lss (k := .i64) (a := k) (b := 4) true (decide_eq_true hk)) ?_
  refine znt ?_
  refine zit ?_
  refine wp_seq ?_
  refine wp_block ?_
  refine zsr ?_
  refine zwv (iN .i64 k) ?_
  refine zwv (iN .i64 k) ?_
  refine znt ?_
  refine zsr ?_
  refine zwv (iN .u64 0) ?_
  refine znt ?_
  refine wp_seq ?_
  refine zsr ?_
  refine zwv (iN .i64 0) ?_
  refine znt ?_
  refine wp_block ?_
  refine wp_while (fun mq A w' => ∃ (m c M : Nat) (u19 : Nat → Value), mq = 4 - m ∧ A = ⟨(arr a :: arr b :: pt q1 :: pt q4 :: pt q7 :: pt q10 :: pt q13 :: iN .i64 k :: iN .u64 c :: u19 9 :: un :: un :: iN .i64 k :: .bool true :: iN .i64 k :: iN .i64 m :: u19 16 :: u19 17 :: u19 18 :: u19 19 :: u19 20 :: u19 21 :: u19 22 :: u19 23 :: u19 24 :: u19 25 :: u19 26 :: u19 27 :: u19 28 :: u19 29 :: u19 30 :: u19 31 :: u19 32 :: u19 33 :: u19 34 :: u19 35 :: u19 36 :: u19 37 :: u19 38 :: u16 39 :: u16 40 :: u16 41 :: u16 42 :: u16 43 :: List.replicate 8 un).toArray, []⟩ ∧ HA w [(q13, 107, el8 M), (q10, 73, el 0), (q7, 73, el 0), (q4, 73, el b), (q1, 73, el a)] w' ∧ m ≤ 4 ∧ c < K ∧ M + c * K ^ (k + m) = a % K ^ k * b + (a / K ^ k % K) * (b % K ^ m) * K ^ k ∧ M < K ^ (k + 4)) 4 ?_ ?_
  ·exact ⟨0, 0, a % K ^ k * b, lku u16 [], rfl, by kernel_rfl, h18, by omega, by decide, mul_start a b k, hlow0⟩
  rintro _ _ w20 ⟨m, c, M, u19, rfl, rfl, h21, hm4, hc, hM, hlow⟩
  refine wp_seq ?_
  by_cases hlm : m < 4
  ·obtain ⟨M', e1, e2, e3, e4⟩ := mul_step K M c (a % K ^ k * b) (a / K ^ k % K) b m k (by decide) hM hlow hlm hk (Nat.mod_lt _ (by decide)) hc
   refine wl_region ?_
   refine zwu (run_lss (k := .i64) (a := m) (b := 4) true (decide_eq_true hlm)) ?_
   refine znt ?_
   refine zit ?_
   refine wp_seq ?_
   refine wp_block ?_
   refine zsr ?_
   refine zwv (iN .i64 m) ?_
   refine zwv (iN .i64 m) ?_
   refine znt ?_
   refine wp_region_old [14] (fun _ : Nat → Nat => (⟨(arr a :: arr b :: pt q1 :: pt q4 :: pt q7 :: pt q10 :: pt q13 :: iN .i64 k :: iN .u64 ((a / K ^ k % K * (b / K ^ m % K) + M / K ^ (k + m) % K + c) / 18446744073709551616) :: iN .i64 m :: un :: un :: iN .i64 k :: .bool true :: iN .i64 k :: iN .i64 m :: .bool true :: iN .i64 m :: .tuple #[iN .u64 ((a / K ^ k % K * (b / K ^ m % K) + M / K ^ (k + m) % K + c) / 18446744073709551616), iN .u64 ((a / K ^ k % K * (b / K ^ m % K) + M / K ^ (k + m) % K + c) % 18446744073709551616)] :: iN .i64 k :: iN .i64 m :: iN .i64 (k + m) :: iN .i64 k :: .pointer (some ⟨q1, k, none⟩) :: iN .u64 (a / K ^ k % K) :: iN .i64 m :: .pointer (some ⟨q4, m, none⟩) :: iN .u64 (b / K ^ m % K) :: iN .i64 k :: iN .i64 m :: iN .i64 (k + m) :: .pointer (some ⟨q13, k + m, none⟩) :: iN .u64 (M / K ^ (k + m) % K) :: iN .u64 c :: .tuple #[iN .u64 ((a / K ^ k % K * (b / K ^ m % K) + M / K ^ (k + m) % K + c) / 18446744073709551616), iN .u64 ((a / K ^ k % K * (b / K ^ m % K) + M / K ^ (k + m) % K + c) % 18446744073709551616)] :: iN .u64 ((a / K ^ k % K * (b / K ^ m % K) + M / K ^ (k + m) % K + c) / 18446744073709551616) :: iN .u64 ((a / K ^ k % K * (b / K ^ m % K) + M / K ^ (k + m) % K + c) % 18446744073709551616) :: .pointer (some ⟨q13, k + m, none⟩) :: u19 38 :: u16 39 :: u16 40 :: u16 41 :: u16 42 :: u16 43 :: List.replicate 8 un).toArray, []⟩ : Act)) (GF w [(q13, 107, el8 M), (q10, 73, el 0), (q7, 73, el 0), (q4, 73, el b), (q1, 73, el a)] 21 13 0 q13 107 (el8 M')) [iN .i64 k, iN .i64 m, iN .i64 (k + m), iN .i64 k, .pointer (some ⟨q1, k, none⟩), iN .u64 (a / K ^ k % K), iN .i64 m, .pointer (some ⟨q4, m, none⟩), iN .u64 (b / K ^ m % K), iN .i64 k, iN .i64 m, iN .i64 (k + m), .pointer (some ⟨q13, k + m, none⟩), iN .u64 (M / K ^ (k + m) % K), iN .u64 c, .tuple #[iN .u64 ((a / K ^ k % K * (b / K ^ m % K) + M / K ^ (k + m) % K + c) / 18446744073709551616), iN .u64 ((a / K ^ k % K * (b / K ^ m % K) + M / K ^ (k + m) % K + c) % 18446744073709551616)], .tuple #[iN .u64 ((a / K ^ k % K * (b / K ^ m % K) + M / K ^ (k + m) % K + c) / 18446744073709551616), iN .u64 ((a / K ^ k % K * (b / K ^ m % K) + M / K ^ (k + m) % K + c) % 18446744073709551616)], iN .u64 ((a / K ^ k % K * (b / K ^ m % K) + M / K ^ (k + m) % K + c) / 18446744073709551616), iN .u64 ((a / K ^ k % K * (b / K ^ m % K) + M / K ^ (k + m) % K + c) % 18446744073709551616), iN .u64 ((a / K ^ k % K * (b / K ^ m % K) + M / K ^ (k + m) % K + c) / 18446744073709551616), .pointer (some ⟨q13, k + m, none⟩), undef] (by kernel_rfl) (by kernel_rfl) (by kernel_rfl) (by kernel_rfl) (fun _ _ _ _ h => h) (fun d hd => GF.start h21.drew (hd 21 (by decide))) ?_ ?_
   ·refine AllGhost2.cons (by kernel_rfl) (gf_plain (v := iN .i64 k) (fun _ _ => (by kernel_rfl))) ?_
    refine AllGhost2.cons (by kernel_rfl) (gf_plain (v := iN .i64 m) (fun _ _ => (by kernel_rfl))) ?_
    refine AllGhost2.cons (by kernel_rfl) (gf_plain (v := iN .i64 (k + m)) (fun _ _ => (run_add (k := .i64) (a := k) (b := m) (by simp only [top]; omega)))) ?_
    refine AllGhost2.cons (by kernel_rfl) (gf_plain (v := iN .i64 k) (fun _ _ => (by kernel_rfl))) ?_
    refine AllGhost2.cons (by kernel_rfl) (gf_plain (v := .pointer (some ⟨q1, k, none⟩)) (fun _ _ => (run_addr_arr (q := q1) (a := k) Tryz.underlying73 Tryz.sizeOf34 (by omega)))) ?_
    refine AllGhost2.cons (by kernel_rfl) (gf_cell2 (v := iN .u64 (a / K ^ k % K)) 4 rfl k (el_get a k (by omega)) Tryz.isAgg34) ?_
    refine AllGhost2.cons (by kernel_rfl) (gf_plain (v := iN .i64 m) (fun _ _ => (by kernel_rfl))) ?_
    refine AllGhost2.cons (by kernel_rfl) (gf_plain (v := .pointer (some ⟨q4, m, none⟩)) (fun _ _ => (run_addr_arr (q := q4) (a := m) Tryz.underlying73 Tryz.sizeOf34 (by omega)))) ?_
    refine AllGhost2.cons (by kernel_rfl) (gf_cell2 (v := iN .u64 (b / K ^ m % K)) 3 rfl m (el_get b m (by omega)) Tryz.isAgg34) ?_
    refine AllGhost2.cons (by kernel_rfl) (gf_plain (v := iN .i64 k) (fun _ _ => (by kernel_rfl))) ?_
    refine AllGhost2.cons (by kernel_rfl) (gf_plain (v := iN .i64 m) (fun _ _ => (by kernel_rfl))) ?_
    refine AllGhost2.cons (by kernel_rfl) (gf_plain (v := iN .i64 (k + m)) (fun _ _ => (run_add (k := .i64) (a := k) (b := m) (by simp only [top]; omega)))) ?_
    refine AllGhost2.cons (by kernel_rfl) (gf_plain (v := .pointer (some ⟨q13, k + m, none⟩)) (fun _ _ => (run_addr_arr (q := q13) (a := k + m) Tryz.underlying107 Tryz.sizeOf34 (by omega)))) ?_
    refine AllGhost2.cons (by kernel_rfl) (gf_cell (v := iN .u64 (M / K ^ (k + m) % K)) 0 rfl (by decide) (k + m) (el8_get M (k + m) (by omega)) Tryz.isAgg34 (fun _ => by kernel_rfl) (fun _ => by kernel_rfl) (fun _ => by kernel_rfl)) ?_
    refine AllGhost2.was (by kernel_rfl) (fun _ => by kernel_rfl) (fun _ _ w h => h.keep (by decide) (Below.refl _ w)) ?_
    refine AllGhost2.cons (by kernel_rfl) (gf_call (v := .tuple #[iN .u64 ((a / K ^ k % K * (b / K ^ m % K) + M / K ^ (k + m) % K + c) / 18446744073709551616), iN .u64 ((a / K ^ k % K * (b / K ^ m % K) + M / K ^ (k + m) % K + c) % 18446744073709551616)]) enter105 #[iN .u64 (a / K ^ k % K), iN .u64 (b / K ^ m % K), iN .u64 (M / K ^ (k + m) % K), iN .u64 c] (fun w' => step_below _ _ _ _ (Nat.mod_lt _ (by decide)) (Nat.mod_lt _ (by decide)) (Nat.mod_lt _ (by decide)) hc w')) ?_
    refine AllGhost2.cons (by kernel_rfl) (gf_plain (v := .tuple #[iN .u64 ((a / K ^ k % K * (b / K ^ m % K) + M / K ^ (k + m) % K + c) / 18446744073709551616), iN .u64 ((a / K ^ k % K * (b / K ^ m % K) + M / K ^ (k + m) % K + c) % 18446744073709551616)]) (fun _ _ => (by kernel_rfl))) ?_
    refine AllGhost2.cons (by kernel_rfl) (gf_plain (v := iN .u64 ((a / K ^ k % K * (b / K ^ m % K) + M / K ^ (k + m) % K + c) / 18446744073709551616)) (fun _ _ => (by kernel_rfl))) ?_
    refine AllGhost2.cons (by kernel_rfl) (gf_plain (v := iN .u64 ((a / K ^ k % K * (b / K ^ m % K) + M / K ^ (k + m) % K + c) % 18446744073709551616)) (fun _ _ => (by kernel_rfl))) ?_
    refine AllGhost2.cons (by kernel_rfl) (gf_plain (v := iN .u64 ((a / K ^ k % K * (b / K ^ m % K) + M / K ^ (k + m) % K + c) / 18446744073709551616)) (fun _ _ => (by kernel_rfl))) ?_
    refine AllGhost2.cons (by kernel_rfl) (gf_plain (v := .pointer (some ⟨q13, k + m, none⟩)) (fun _ _ => (run_addr_arr (q := q13) (a := k + m) Tryz.underlying107 Tryz.sizeOf34 (by omega)))) ?_
    refine AllGhost2.cons (by kernel_rfl) (gf_put (k := .u64) (z := (((a / K ^ k % K * (b / K ^ m % K) + M / K ^ (k + m) % K + c) % 18446744073709551616 : Nat) : Int)) (off := k + m) rfl (by rw [el8_size]; omega) (el8_put _ _ _ _ e1) Tryz.sizeOf34) ?_
    exact AllGhost2.nil
   intro _ w22 g23
   have h24 : HA w [(q13, 107, el8 M'), (q10, 73, el 0), (q7, 73, el 0), (q4, 73, el b), (q1, 73, el a)] w22 := g23.held
   clear g23
   refine block_normal ?_
   refine then_at rfl ?_
   refine wl_region ?_
   refine zwu (run_add (k := .i64) (a := m) (b := 1) (by simp only [top]; omega)) ?_
   refine zwv (iN .i64 (m + 1)) ?_
   refine wl_nil ?_
   exact then_I ⟨4 - (m + 1), by omega, m + 1, (a / K ^ k % K * (b / K ^ m % K) + M / K ^ (k + m) % K + c) / 18446744073709551616, M', lku (fun _ => undef) [(9, iN .i64 m), (16, .bool true), (17, iN .i64 m), (18, .tuple #[iN .u64 ((a / K ^ k % K * (b / K ^ m % K) + M / K ^ (k + m) % K + c) / 18446744073709551616), iN .u64 ((a / K ^ k % K * (b / K ^ m % K) + M / K ^ (k + m) % K + c) % 18446744073709551616)]), (19, iN .i64 k), (20, iN .i64 m), (21, iN .i64 (k + m)), (22, iN .i64 k), (23, .pointer (some ⟨q1, k, none⟩)), (24, iN .u64 (a / K ^ k % K)), (25, iN .i64 m), (26, .pointer (some ⟨q4, m, none⟩)), (27, iN .u64 (b / K ^ m % K)), (28, iN .i64 k), (29, iN .i64 m), (30, iN .i64 (k + m)), (31, .pointer (some ⟨q13, k + m, none⟩)), (32, iN .u64 (M / K ^ (k + m) % K)), (33, iN .u64 c), (34, .tuple #[iN .u64 ((a / K ^ k % K * (b / K ^ m % K) + M / K ^ (k + m) % K + c) / 18446744073709551616), iN .u64 ((a / K ^ k % K * (b / K ^ m % K) + M / K ^ (k + m) % K + c) % 18446744073709551616)]), (35, iN .u64 ((a / K ^ k % K * (b / K ^ m % K) + M / K ^ (k + m) % K + c) / 18446744073709551616)), (36, iN .u64 ((a / K ^ k % K * (b / K ^ m % K) + M / K ^ (k + m) % K + c) % 18446744073709551616)), (37, .pointer (some ⟨q13, k + m, none⟩)), (38, iN .i64 (m + 1))], rfl, by kernel_rfl, h24, by omega, e4, e2, e3⟩
  ·obtain rfl : m = 4 := by omega
   have hR := mul_row K M c a b k (by decide) hb hM hlow hk hc
   refine wl_region ?_
   refine zwu (run_lss (k := .i64) (a := 4) (b := 4) false (by decide)) ?_
   refine znt ?_
   refine wp_seq ?_
   refine zcf ?_
   refine wp_exit ?_
   repeat first | refine then_exit ?_ | refine block_exit ?_ | refine block_exit_ne (by decide) ?_
   refine then_at rfl ?_
   refine wl_region ?_
   refine zwv (iN .i64 k) ?_
   refine zwu (run_add (k := .i64) (a := k) (b := 4) (by simp only [top]; omega)) ?_
   refine zwv (iN .u64 c) ?_
   refine zwu (run_addr_arr (q := q13) (a := k + 4) Tryz.underlying107 Tryz.sizeOf34 (by omega)) ?_
   refine wl_put (k := .u64) (z := ((c : Nat) : Int)) h21 0 rfl (k + 4) (by rw [el8_size]; omega) Tryz.sizeOf34 ?_
   intro w25 h26
   have h27 : HA w [(q13, 107, el8 (a % K ^ (k + 1) * b)), (q10, 73, el 0), (q7, 73, el 0), (q4, 73, el b), (q1, 73, el a)] w25 := (by rw [← el8_put _ _ _ _ hR.1]; exact h26)
   clear h26
   refine wl_nil ?_
   refine block_normal ?_
   refine then_at rfl ?_
   refine wl_region ?_
   refine zwu (run_add (k := .i64) (a := k) (b := 1) (by simp only [top]; omega)) ?_
   refine zwv (iN .i64 (k + 1)) ?_
   refine wl_nil ?_
   exact then_I (zex h27)
 ·rintro _ w28 ⟨u16, rfl, h29⟩
  refine zsr ?_
  refine zwu (run_lss (k := .i64) (a := 4) (b := 4) false (by decide)) ?_
  refine znt ?_
  refine wp_seq ?_
  refine zcf ?_
  refine wp_exit ?_
  repeat first | refine then_exit ?_ | refine block_exit ?_ | refine block_exit_ne (by decide) ?_
  have h30 : HA w [(q13, 107, el8 (a * b)), (q10, 73, el 0), (q7, 73, el 0), (q4, 73, el b), (q1, 73, el a)] w28 := by have e4 := Nat.mod_eq_of_lt ha; rw [e4] at h29; exact h29
  refine then_at rfl ?_
  refine zsr ?_
  refine wl_make h30 73 run_alloc34 ?_
  intro q31 w32 h33
  refine wl_make h33 73 run_alloc34 ?_
  intro q34 w35 h36
  refine znt ?_
  refine wp_seq ?_
  refine zrg (fun _ : Nat → Nat => (⟨(zScC_0 a b q1 q4 q7 q10 q13 u16 q31 q34 (List.replicate 5 un)).toArray, []⟩ : Act)) (GP w [(q34, 73, el 0), (q31, 73, el 0), (q13, 107, el8 (a * b)), (q10, 73, el 0), (q7, 73, el 0), (q4, 73, el b), (q1, 73, el a)] 2 1 q31 73 (el (a * b / K ^ 4))) (fun d hd => GP.start h36.drew (hd 2 (by decide))) ?_ ?_
  ·refine zg (gp_plain (v := .slice (some ⟨q31, 0, none⟩) 4 4) (fun _ _ => (run_slice34 (q := q31) (by kernel_rfl)))) ?_
   refine zg (gp_plain (v := .slice (some ⟨q13, 4, none⟩) 4 4) (fun _ _ => (run_slice61h (q := q13) (by kernel_rfl) (by kernel_rfl)))) ?_
   refine zg (gp_copy (o := 4) (n := 4) (m := 2) rfl rfl rfl rfl (high_words (a * b)) (one_cl _ _) (fun _ => by kernel_rfl) (fun _ _ => by kernel_rfl) (fun _ => by kernel_rfl) (fun _ => by kernel_rfl)) ?_
   exact AllGhost.nil
  intro _ w37 g38
  have h39 : HA w [(q34, 73, el 0), (q31, 73, el (a * b / K ^ 4)), (q13, 107, el8 (a * b)), (q10, 73, el 0), (q7, 73, el 0), (q4, 73, el b), (q1, 73, el a)] w37 := g38
  clear g38
  refine then_at rfl ?_
  refine wp_seq ?_
  refine zrg (fun _ : Nat → Nat => (⟨(zScC_0 a b q1 q4 q7 q10 q13 u16 q31 q34 (.slice (some ⟨q34, 0, none⟩) 4 4 :: .slice (some ⟨q13, 0, none⟩) 4 8 :: iN .i64 4 :: List.replicate 2 un)).toArray, []⟩ : Act)) (GP w [(q34, 73, el 0), (q31, 73, el (a * b / K ^ 4)), (q13, 107, el8 (a * b)), (q10, 73, el 0), (q7, 73, el 0), (q4, 73, el b), (q1, 73, el a)] 2 0 q34 73 (el (a * b))) (fun d hd => GP.start h39.drew (hd 2 (by decide))) ?_ ?_
  ·refine zg (gp_plain (v := .slice (some ⟨q34, 0, none⟩) 4 4) (fun _ _ => (run_slice34 (q := q34) (by kernel_rfl)))) ?_
   refine zg (gp_plain (v := .slice (some ⟨q13, 0, none⟩) 4 8) (fun _ _ => (run_slice61l (q := q13) (by kernel_rfl) (by kernel_rfl)))) ?_
   refine zg (gp_copy (o := 0) (n := 8) (m := 2) rfl rfl rfl rfl (low_words (a * b)) (one_cl _ _) (fun _ => by kernel_rfl) (fun _ _ => by kernel_rfl) (fun _ => by kernel_rfl) (fun _ => by kernel_rfl)) ?_
   exact AllGhost.nil
  intro _ w40 g41
  have h42 : HA w [(q34, 73, el (a * b)), (q31, 73, el (a * b / K ^ 4)), (q13, 107, el8 (a * b)), (q10, 73, el 0), (q7, 73, el 0), (q4, 73, el b), (q1, 73, el a)] w40 := g41
  clear g41
  refine then_at rfl ?_
  refine wp_seq ?_
  refine zrg (fun _ : Nat → Nat => (⟨(zScC_0 a b q1 q4 q7 q10 q13 u16 q31 q34 (.slice (some ⟨q34, 0, none⟩) 4 4 :: .slice (some ⟨q13, 0, none⟩) 4 8 :: iN .i64 4 :: arr (a * b / K ^ 4) :: arr (a * b) :: [])).toArray, []⟩ : Act)) (G2 w [(q34, 73, el (a * b)), (q31, 73, el (a * b / K ^ 4)), (q13, 107, el8 (a * b)), (q10, 73, el 0), (q7, 73, el 0), (q4, 73, el b), (q1, 73, el a)] 2 4 (q7, 73, el (a * b / K ^ 4)) 3 3 (q10, 73, el (a * b))) (fun d hd => G2.start h42.drew (hd 2 (by decide)) (hd 3 (by decide))) ?_ ?_
  ·refine zg (g2_load 1 rfl (by decide) (by decide) (by decide) (by decide) (fun _ => by kernel_rfl) (fun _ => by kernel_rfl) (fun _ => by kernel_rfl) Tryz.underlying73 rfl info34) ?_
   refine zg (g2_load 0 rfl (by decide) (by decide) (by decide) (by decide) (fun _ => by kernel_rfl) (fun _ => by kernel_rfl) (fun _ => by kernel_rfl) Tryz.underlying73 rfl info34) ?_
   refine zg (g2_fill0 rfl (el_sz _ _) (by decide) (by decide) (fun _ => by kernel_rfl) (fun _ => by kernel_rfl) (fun _ => by kernel_rfl) (fun _ => by kernel_rfl) info34 (one_cl _ _)) ?_
   refine zg (g2_fill1 rfl (el_sz _ _) (by decide) (by decide) (fun _ => by kernel_rfl) (fun _ => by kernel_rfl) (fun _ => by kernel_rfl) (fun _ => by kernel_rfl) info34 (one_cl _ _)) ?_
   exact AllGhost.nil
  intro _ w43 g44
  have h45 : HA w [(q34, 73, el (a * b)), (q31, 73, el (a * b / K ^ 4)), (q13, 107, el8 (a * b)), (q10, 73, el (a * b)), (q7, 73, el (a * b / K ^ 4)), (q4, 73, el b), (q1, 73, el a)] w43 := g44
  clear g44
  refine then_at rfl ?_
  refine wp_ret ?_
  repeat first | refine then_ret ?_ | refine block_ret ?_
  exact bodyPost_ret (res_two (p := 4) (r := 5) (by kernel_rfl) (by kernel_rfl) (by kernel_rfl) (h45.get 4 rfl) (h45.get 3 rfl) Tryz.underlying73 rfl info34 info34) rfl ⟨rfl, h45.old⟩
end Go.Proofs.YtefjnfeckenmkaaGreatDoor.Sc

namespace Go.Proofs.YtefjnfeckenmkaaGreatDoor.Sc
set_option linter.unusedVariables false
set_option maxRecDepth 100000
set_option maxHeartbeats 2000000
open Go.RowKit Num
def sb (s : ByteArray) (i : Nat) : Nat := numS s / 256 ^ i % 256
theorem sb_lt (s : ByteArray) (i : Nat) : sb s i < 256 := Nat.mod_lt _ (by decide)
theorem sb_get (s : ByteArray) (i : Nat) (h : i < s.size) : (s.get i h).toNat = sb s i := by
 unfold sb numS
 have hl : (bts s).length = s.size := bts_length s
 have h1 : digs 256 (bts s).length (num 256 (bts s)) = bts s := digs_num 256 (bts s) (bts_lt s) _ rfl
 have h2 := digs_get 256 (bts s).length (num 256 (bts s)) i (by rw [digs_length]; omega)
 rw [← h2]
 simp only [h1]
 simp [bts]
 rfl
theorem run_sidx {ρ : Operand → Value} {x y : Operand} {s : ByteArray} {a : Nat} {w : World} {dst : Option Tmp} {ty : TypeId} {pos : String} {aft : Array Edge} {gd : Option (Nat × Bool)}   (ha : a < s.size) (hx : ρ x = .string s := by kernel_rfl) (hy : ρ y = iN .i64 a := by kernel_rfl) :
  (execOp ρ ⟨dst, .index 9 x y, ty, pos, aft, gd⟩).run Tryz.prog w = .ok (.value (iN .u8 (sb s a))) w := by
 rw [← sb_get s a ha]
 exact run_index_str Tryz.underlying9 hx hy ha
theorem numS_bytesOf (n : Nat) (h : n < 256 ^ 32) : numS (bytesOf n) = n := by
 unfold numS
 rw [bts_bytesOf, num_digs]
 exact Nat.mod_eq_of_lt h
theorem numS_lt (s : ByteArray) : numS s < 256 ^ s.size := by
 have h := num_lt 256 (bts s) (bts_lt s)
 rwa [bts_length] at h
theorem sb_shl64 (s : ByteArray) (k : Nat) : sb s k * 2 ^ (8 * (k % 8)) < 18446744073709551616 := by
 have h1 : 2 ^ (8 * (k % 8)) ≤ 2 ^ 56 := Nat.pow_le_pow_right (by decide) (by omega)
 have h2 : (2 : Nat) ^ 56 = 72057594037927936 := by decide
 have h3 := Nat.mul_le_mul (show sb s k ≤ 255 by have := sb_lt s k; omega) h1
 omega
theorem or_low (z x r : Nat) (hz : z < 2 ^ r) : z ||| x * 2 ^ r = z + x * 2 ^ r := by
 rw [Nat.or_comm, Nat.mul_comm, ← Nat.two_pow_add_eq_or_of_lt hz, Nat.add_comm]
theorem word_put (s : ByteArray) (k : Nat) (hk : k < 32) : (digs K 4 (numS s % 256 ^ k)).set (k / 8) (numS s % 256 ^ k / K ^ (k / 8) % K ||| sb s k * 2 ^ (8 * (k % 8))) = digs K 4 (numS s % 256 ^ (k + 1)) := by
 have h := byte_put (numS s % 256 ^ k) k (sb s k) (Nat.mod_lt _ (Nat.pow_pos (by decide))) hk (sb_lt s k)
 rw [or_low _ _ _ h.2, h.1, mod_step 256 (numS s) k]
 rfl
theorem words_any (s : ByteArray) (hs : s.size ≤ 32) (w : World) :
  Calls Tryz.prog 66 #[.string s] w fun e w' => e = .returned (arr (numS s)) ∧ Below w.heap.size w w' := by
 have H0 := HA.start w
 go_enter Tryz.func66, Tryz.ntmps66
 refine zsr ?_
 refine wl_make H0 73 run_alloc34 ?_
 intro q1 w2 h3
 refine znt ?_
 refine zsr ?_
 refine wl_make h3 73 run_alloc34 ?_
 intro q4 w5 h6
 refine znt ?_
 refine wp_seq ?_
 refine zsr ?_
 refine zwv (.string s) ?_
 refine zwu (run_len (s := s)) ?_
 refine zwv (iN .i64 0) ?_
 refine znt ?_
 refine wp_block ?_
 refine wp_count (fun k A w' => ∃ u7 : Nat → Value, A = ⟨(.string s :: un :: pt q1 :: pt q4 :: u7 4 :: .string s :: iN .i64 s.size :: iN .i64 k :: u7 8 :: u7 9 :: u7 10 :: u7 11 :: u7 12 :: u7 13 :: u7 14 :: u7 15 :: u7 16 :: u7 17 :: u7 18 :: u7 19 :: u7 20 :: u7 21 :: u7 22 :: u7 23 :: u7 24 :: List.replicate 1 un).toArray, []⟩ ∧ HA w [(q4, 73, el (numS s % 256 ^ k)), (q1, 73, el 0)] w') s.size ?_ ?_ ?_
 ·exact zex ((by rw [Nat.pow_zero, Nat.mod_one]; exact h6))
 ·rintro k hk _ w8 ⟨u7, rfl, h9⟩
  refine zsr ?_
  refine zwu (run_lss (k := .i64) (a := k) (b := s.size) true (decide_eq_true hk)) ?_
  refine znt ?_
  refine zit ?_
  refine wp_seq ?_
  refine wp_block ?_
  refine zsr ?_
  refine zwv (iN .i64 k) ?_
  refine zwv (iN .i64 k) ?_
  refine znt ?_
  refine zrg (fun _ : Nat → Nat => (⟨(.string s :: un :: pt q1 :: pt q4 :: iN .i64 k :: .string s :: iN .i64 s.size :: iN .i64 k :: .bool true :: iN .i64 k :: iN .i64 k :: iN .i64 (k / 8) :: .pointer (some ⟨q4, k / 8, none⟩) :: iN .u64 ((numS s % 256 ^ k) / K ^ (k / 8) % K) :: .string s :: iN .i64 k :: iN .u8 (sb s k) :: iN .u64 (sb s k) :: iN .i64 k :: iN .i64 (k % 8) :: iN .i64 (8 * (k % 8)) :: iN .u64 ((sb s k) * 2 ^ (8 * (k % 8))) :: iN .u64 (((numS s % 256 ^ k) / K ^ (k / 8) % K) ||| ((sb s k) * 2 ^ (8 * (k % 8)))) :: .pointer (some ⟨q4, k / 8, none⟩) :: u7 24 :: List.replicate 1 un).toArray, []⟩ : Act)) (GF w [(q4, 73, el (numS s % 256 ^ k)), (q1, 73, el 0)] 14 3 0 q4 73 (el (numS s % 256 ^ (k + 1)))) (fun d hd => GF.start h9.drew (hd 14 (by decide))) ?_ ?_
  ·refine zg (gf_plain (v := iN .i64 k) (fun _ _ => (by kernel_rfl))) ?_
   refine zg (gf_plain (v := iN .i64 (k / 8)) (fun _ _ => (run_quo (k := .i64) (a := k) (b := 8) (by omega) (by simp only [top]; omega)))) ?_
   refine zg (gf_plain (v := .pointer (some ⟨q4, k / 8, none⟩)) (fun _ _ => (run_addr_arr (q := q4) (a := k / 8) Tryz.underlying73 Tryz.sizeOf34 (by omega)))) ?_
   refine zg (gf_cell (v := iN .u64 ((numS s % 256 ^ k) / K ^ (k / 8) % K)) 0 rfl (by decide) (k / 8) (el_get (numS s % 256 ^ k) (k / 8) (by omega)) Tryz.isAgg34 (fun _ => by kernel_rfl) (fun _ => by kernel_rfl) (fun _ => by kernel_rfl)) ?_
   refine zg (gf_plain (v := .string s) (fun _ _ => (by kernel_rfl))) ?_
   refine zg (gf_plain (v := iN .i64 k) (fun _ _ => (by kernel_rfl))) ?_
   refine zg (gf_plain (v := iN .u8 (sb s k)) (fun _ _ => (run_sidx (s := s) (a := k) hk))) ?_
   refine zg (gf_plain (v := iN .u64 (sb s k)) (fun _ _ => (run_conv (k := .u8) (a := sb s k) .u64 Tryz.underlying5 Tryz.underlying34 (Nat.lt_trans (sb_lt s _) (by decide))))) ?_
   refine zg (gf_plain (v := iN .i64 k) (fun _ _ => (by kernel_rfl))) ?_
   refine zg (gf_plain (v := iN .i64 (k % 8)) (fun _ _ => (run_rem (k := .i64) (a := k) (b := 8) (by omega)))) ?_
   refine zg (gf_plain (v := iN .i64 (8 * (k % 8))) (fun _ _ => (run_mul (k := .i64) (a := 8) (b := k % 8) (by simp only [top]; omega)))) ?_
   refine zg (gf_plain (v := iN .u64 ((sb s k) * 2 ^ (8 * (k % 8)))) (fun _ _ => (run_shl (k2 := .i64) (k := .u64) (a := sb s k) (b := 8 * (k % 8)) (hb := (by show 8 * (k % 8) ≤ 64; omega)) (sb_shl64 s k)))) ?_
   refine zg (gf_plain (v := iN .u64 (((numS s % 256 ^ k) / K ^ (k / 8) % K) ||| ((sb s k) * 2 ^ (8 * (k % 8))))) (fun _ _ => (run_or64 (a := (numS s % 256 ^ k) / K ^ (k / 8) % K) (b := (sb s k) * 2 ^ (8 * (k % 8))) (by kernel_rfl) (by kernel_rfl) (Nat.mod_lt _ (by decide)) (sb_shl64 s k)))) ?_
   refine zg (gf_plain (v := .pointer (some ⟨q4, k / 8, none⟩)) (fun _ _ => (run_addr_arr (q := q4) (a := k / 8) Tryz.underlying73 Tryz.sizeOf34 (by omega)))) ?_
   refine zg (gf_put (k := .u64) (z := ((((numS s % 256 ^ k) / K ^ (k / 8) % K) ||| ((sb s k) * 2 ^ (8 * (k % 8))) : Nat) : Int)) (off := k / 8) rfl (by rw [el_size]; omega) (el_put _ _ _ _ (word_put s k (by omega))) Tryz.sizeOf34) ?_
   exact AllGhost.nil
  intro _ w10 g11
  have h12 : HA w [(q4, 73, el (numS s % 256 ^ (k + 1))), (q1, 73, el 0)] w10 := g11.held
  clear g11
  refine block_normal ?_
  refine then_at rfl ?_
  refine wl_region ?_
  refine zwu (run_add (k := .i64) (a := k) (b := 1) (by simp only [top]; omega)) ?_
  refine zwv (iN .i64 (k + 1)) ?_
  refine wl_nil ?_
  exact then_I (zex h12)
 ·rintro _ w13 ⟨u7, rfl, h14⟩
  refine zsr ?_
  refine zwu (run_lss (k := .i64) (a := s.size) (b := s.size) false (decide_eq_false (Nat.lt_irrefl _))) ?_
  refine znt ?_
  refine wp_seq ?_
  refine zcf ?_
  refine wp_exit ?_
  repeat first | refine then_exit ?_ | refine block_exit ?_ | refine block_exit_ne (by decide) ?_
  have h15 : HA w [(q4, 73, el (numS s)), (q1, 73, el 0)] w13 := by have e4 := Nat.mod_eq_of_lt (numS_lt s); rw [e4] at h14; exact h14
  refine then_at rfl ?_
  refine zsr ?_
  refine wl_load h15 0 rfl Tryz.underlying73 rfl info34 ?_
  refine wl_fill (c' := el (numS s)) h15 1 rfl (el_sz _ _) info34 (one_cl _ _) ?_
  intro w16 (h17 : HA w [(q4, 73, el (numS s)), (q1, 73, el (numS s))] w16)
  refine znt ?_
  refine wp_ret ?_
  repeat first | refine then_ret ?_ | refine block_ret ?_
  exact bodyPost_ret (res_cell (p := 2) (by kernel_rfl) (by kernel_rfl) (h17.get 1 rfl) Tryz.underlying73 rfl info34) rfl ⟨rfl, h17.old⟩
theorem Bytes_any (n : Nat) (w : World) :
  Calls Tryz.prog 58 #[arr n] w fun e w' => e = .returned (.string (bytesOf n)) ∧ Below w.heap.size w w' := by
 obtain ⟨i0, hi, hz0, hz1, hz2⟩ := info_parts info5
 obtain ⟨a0, a1, a2, a3, ea, ea'⟩ := arr_open n
 have EA := hide ea
 rw [ea']
 clear ea ea'
 go_enter Tryz.func58, Tryz.ntmps58
 go_wp2_with (at_make; refine wpList_make_own _ rfl (.const (.int .i64 0)) (.const (.int .i64 32)) 71 rfl (w.heap.size + 1) 5 i0 (.int .u8 0) 1 Tryz.underlying71 hi hz0 hz1 .i64 .i64 _ 32 rfl rfl (by omega) (by rw [hz2]; omega) (by unfold maxLen; omega) (by simp) ?_; intro w1 hown1 hg1)
 have RA : Row (w.alloc (.cells #[.int .u64 a0, .int .u64 a1, .int .u64 a2, .int .u64 a3] 73)) w.heap.size 73 .u64 (digs K 4 n) := by rw [EA.out]; exact Row.mk rfl rfl
 have hsz0 : (w.alloc (.cells #[.int .u64 a0, .int .u64 a1, .int .u64 a2, .int .u64 a3] 73)).heap.size = w.heap.size + 1 := by simp
 have L : Below (w.heap.size + 1) (w.alloc (.cells #[.int .u64 a0, .int .u64 a1, .int .u64 a2, .int .u64 a3] 73)) w1 := (Below.refl _ _).grown hg1 (by simp) (fun k h => by cases h)
 have hBw : Below w.heap.size w (w.alloc (.cells #[.int .u64 a0, .int .u64 a1, .int .u64 a2, .int .u64 a3] 73)) := new_below (Below.refl _ w) (Nat.le_refl _)
 generalize w.alloc (.cells #[.int .u64 a0, .int .u64 a1, .int .u64 a2, .int .u64 a3] 73) = wa at *
 have O : Owns w1 (w.heap.size + 1) (.slice (some ⟨w.heap.size + 1, 0, none⟩) 0 32) (les 0 n) := by rw [hsz0] at hown1; exact hown1
 clear hown1 hg1
 go_loopw [3, 6] (fun o i wr => ∃ k : Nat, k ≤ 32 ∧ i = .int .i64 k ∧ Owns wr (w.heap.size + 1) o (les k n) ∧ Below (w.heap.size + 1) wa wr) (fun _ i _ => 32 - (intOf i).toNat)
 case atStart => exact ⟨0, by omega, rfl, O, L⟩
 case round =>
  clear O L
  obtain ⟨k, hk, rfl, hown, hbel⟩ := hrel
  have hwr := hbel.size
  by_cases hlt : k < 32
  ·have co := (RA.below hbel (by omega)).dig (k / 8) (by omega)
   have hby := hide (byte_of n k)
   have hsn := hide (les_snoc k n)
   have hll := les_length k n
   obtain ⟨q, hq⟩ : ∃ q, q = k / 8 := ⟨_, rfl⟩
   obtain ⟨r, hr⟩ : ∃ r, r = 8 * (k % 8) := ⟨_, rfl⟩
   rw [← hq, ← hr] at hby
   rw [← hq] at co
   generalize n / K ^ q % K = z at *
   obtain ⟨c, hc⟩ : ∃ c, c = UInt8.ofNat (n / 256 ^ k % 256) := ⟨_, rfl⟩
   rw [← hc] at hsn
   have hcn : c.toNat = z / 2 ^ r % 256 := by
    rw [hc, hby.out, UInt8.toNat_ofNat']
    omega
   have hk0 : (0 : Int) ≤ (k : Int) := by omega
   have hq1 : (q : Int) < 4 := by omega
   have hq0 : (0 : Int) ≤ (q : Int) := by omega
   have hdiv : (k : Int) / 8 = (q : Int) := by omega
   have hmod : (8 : Int) * ((k : Int) % 8) = (r : Int) := by omega
   have hr1 : (r : Int) < 64 := by omega
   have hr0 : (0 : Int) ≤ (r : Int) := by omega
   have hsh : (z : Int) / 2 ^ r % 256 = (c.toNat : Int) := by
    rw [hcn, Int.natCast_emod, Int.natCast_ediv, Int.natCast_pow]; rfl
   generalize les k n = acc at *
   have HQ := hide hq
   have HR := hide hr
   clear hq hr hc hcn
   go_wp2_with (at_builtin; refine wpList_append_own _ rfl (.tmp 9) (.tmp 19) 71 rfl (w.heap.size + 1) 5 i0 (.int .u8 0) 1 1 Tryz.underlying71 hi hz0 hz1 hz2 rfl (by decide) _ acc.length (cs acc) rfl (World.ownsRow.alloc hown _) ⟨wr.heap.size, 0, none⟩ 1 1 [.int .u8 (c.toNat : Int)] rfl rfl (news_one _ _) (one_one _ _) (by unfold maxLen; omega) (by omega) (by simp; omega) ?_; intro v3 w3 hown3 hg3 hn3)
   have P1 := push_byte rfl hown3
   have P2 := push_below hbel (by omega) hown hg3
   rw [← hsn.out] at P1
   clear hown3 hg3 hn3 hown hbel
   go_wp2
   go_roundw
   case rel => exact ⟨k + 1, by omega, int_eq (by omega), P1, P2⟩
   case measure => simp [intOf]; omega
  ·have hk4 : k = 32 := by omega
   subst hk4
   have HS := hown.str (by rw [les_length]; omega)
   have hB := hBw.trans (hbel.mono (by omega))
   go_wp2
   go_ret
   exact ⟨rfl, hB⟩
end Go.Proofs.YtefjnfeckenmkaaGreatDoor.Sc
