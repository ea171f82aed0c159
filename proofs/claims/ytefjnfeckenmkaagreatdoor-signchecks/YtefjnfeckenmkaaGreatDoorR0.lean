/-
 The reference's functions: prime, less, Odd, Small.
-/
import Derived.Test.YtefjnfeckenmkaaGreatDoorB1
namespace Go.Proofs.YtefjnfeckenmkaaGreatDoor
set_option linter.unusedVariables false
set_option maxRecDepth 100000
set_option maxHeartbeats 2000000
open Go.RowKit Num
theorem rprime_any (w : World) : Calls Tryz.prog 107 #[] w fun e w' => e = .returned (rarr P) ∧ Below w.heap.size w w' := by
 have H0 := HA.start w
 go_enter Tryz.func107, Tryz.ntmps107
 refine zsr ?_
 refine wl_make H0 51 run_alloc32 ?_
 intro q1 w2 h3
 refine znt ?_
 refine zsr ?_
 refine wl_make h3 51 run_alloc32 ?_
 intro q4 w5 h6
 refine znt ?_
 refine wp_seq ?_
 refine zsr ?_
 refine zwv (iN .i64 0) ?_
 refine znt ?_
 refine wp_block ?_
 refine wp_count (fun k A w' => ∃ u : Nat → Value, A = ⟨(pt q1 :: pt q4 :: iN .i64 k :: u 3 :: u 4 :: u 5 :: u 6 :: u 7 :: u 8 :: List.replicate 3 un).toArray, []⟩ ∧ HA w [(q4, 51, rl (65536 ^ k - 1)), (q1, 51, rl 0)] w') 16 ?_ ?_ ?_
 ·exact zex h6
 ·rintro k hk _ w7 ⟨u, rfl, h8⟩
  refine wp_seq ?_
  refine zsr ?_
  refine zwv (iN .i64 k) ?_
  refine zwu (run_lss (k := .i64) (a := k) (b := 16) true (decide_eq_true hk)) ?_
  refine znt ?_
  refine zct ?_
  refine wp_skip ?_
  refine then_at rfl ?_
  refine wp_seq ?_
  refine wp_block ?_
  refine wl_region ?_
  refine zwv (iN .i64 k) ?_
  refine zwu (run_addr_arr (q := q4) (a := k) Tryz.underlying51 Tryz.sizeOf49 (by omega)) ?_
  refine wl_put (k := .u32) (z := ((65535 : Nat) : Int)) h8 0 rfl k (by rw [rl_size]; exact hk) Tryz.sizeOf49 ?_
  intro w9 h10
  have h11 : HA w [(q4, 51, rl (65536 ^ (k + 1) - 1)), (q1, 51, rl 0)] w9 := (by rw [← prime_grow k, ← rl_put (65536 ^ k - 1) k 65535 (Nat.sub_lt (Nat.pow_pos (by decide)) (by decide)) hk (by decide)]; exact h10)
  clear h10
  refine wl_nil ?_
  refine block_normal ?_
  refine then_at rfl ?_
  refine wl_region ?_
  refine zwv (iN .i64 k) ?_
  refine zwu (run_add (k := .i64) (a := k) (b := 1) (by simp only [top]; omega)) ?_
  refine zwv (iN .i64 (k + 1)) ?_
  refine wl_nil ?_
  exact then_I (zex h11)
 ·rintro _ w12 ⟨u, rfl, h13⟩
  refine wp_seq ?_
  refine zsr ?_
  refine zwv (iN .i64 16) ?_
  refine zwu (run_lss (k := .i64) (a := 16) (b := 16) false (by decide)) ?_
  refine znt ?_
  refine zcf ?_
  refine wp_exit ?_
  repeat first | refine then_exit ?_ | refine block_exit ?_ | refine block_exit_ne (by decide) ?_
  refine then_at rfl ?_
  refine zsr ?_
  refine zwu (run_addr_arr (q := q4) (a := 0) Tryz.underlying51 Tryz.sizeOf49 (by decide)) ?_
  refine wl_put (k := .u32) (z := ((65517 : Nat) : Int)) h13 0 rfl 0 (by decide) Tryz.sizeOf49 ?_
  intro w14 h15
  have h16 : HA w [(q4, 51, (rl (65536 ^ 16 - 1)).setIfInBounds 0 (iN .u32 65517)), (q1, 51, rl 0)] w14 := h15
  clear h15
  refine znt ?_
  refine zsr ?_
  refine zwu (run_addr_arr (q := q4) (a := 15) Tryz.underlying51 Tryz.sizeOf49 (by decide)) ?_
  refine wl_put (k := .u32) (z := ((32767 : Nat) : Int)) h16 0 rfl 15 (by decide) Tryz.sizeOf49 ?_
  intro w17 h18
  have h19 : HA w [(q4, 51, rl P), (q1, 51, rl 0)] w17 := (by rw [← prime_cells]; exact h18)
  clear h18
  refine znt ?_
  refine zsr ?_
  refine wl_load h19 0 rfl Tryz.underlying51 rfl (info_rl _) ?_
  refine wl_fill (c' := rl P) h19 1 rfl (rl_sz _ _) (info_rl _) (one_rl _) ?_
  intro w20 (h21 : HA w [(q4, 51, rl P), (q1, 51, rl P)] w20)
  refine znt ?_
  refine wp_ret ?_
  repeat first | refine then_ret ?_ | refine block_ret ?_
  exact bodyPost_ret (res_cell (p := 0) (by kernel_rfl) (by kernel_rfl) (h21.get 1 rfl) Tryz.underlying51 rfl (info_rl _)) rfl ⟨rfl, h21.old⟩
theorem odd16 (n : Nat) : decide (n / 65536 ^ 0 % 65536 % 2 = 1) = decide (n % 2 = 1) := by
 rw [Nat.pow_zero, Nat.div_one]
 congr 1
 rw [Nat.mod_mod_of_dvd _ (by decide)]
theorem rodd_any (n : Nat) (w : World) : Calls Tryz.prog 83 #[rarr n] w fun e w' => e = .returned (.bool (decide (n % 2 = 1))) ∧ Below w.heap.size w w' := by
 have H0 := HA.start w
 go_enter Tryz.func83, Tryz.ntmps83
 refine zsr ?_
 refine wl_make H0 51 (run_box32 (c := rl n)) ?_
 intro q1 w2 h3
 refine zwv (.bool false) ?_
 refine znt ?_
 refine zsr ?_
 refine zwu (run_addr_arr (q := q1) (a := 0) Tryz.underlying51 Tryz.sizeOf49 (by decide)) ?_
 refine zwu (run_load1 Tryz.isAgg49 (((h3.get 0 rfl).cell 0).trans (rl_get n 0 (by decide)))) ?_
 refine zwu (run_rem (k := .u32) (a := n / 65536 ^ 0 % 65536) (b := 2) (by omega)) ?_
 refine zwu (run_eqi (k := .u32) (a := (n / 65536 ^ 0 % 65536) % 2) (b := 1) _ rfl) ?_
 refine zwv (.bool (decide ((n / 65536 ^ 0 % 65536) % 2 = 1))) ?_
 refine znt ?_
 refine wp_ret ?_
 repeat first | refine then_ret ?_ | refine block_ret ?_
 exact bodyPost_ret (v := .bool (decide (n / 65536 ^ 0 % 65536 % 2 = 1))) (by kernel_rfl) rfl ⟨by rw [odd16], h3.old⟩
theorem and16 (n : Nat) : n &&& 65535 = n % 65536 := Nat.and_two_pow_sub_one_eq_mod n 16
theorem small16 (n : Nat) : (n &&& 65535) + n / 2 ^ 16 * 65536 = n := by rw [and16]; omega
theorem rsmall_any (n : Nat) (hn : n < 4294967296) (w : World) : Calls Tryz.prog 112 #[iN .u32 n] w fun e w' => e = .returned (rarr n) ∧ Below w.heap.size w w' := by
 have H0 := HA.start w
 go_enter Tryz.func112, Tryz.ntmps112
 refine zsr ?_
 refine wl_make H0 51 run_alloc32 ?_
 intro q1 w2 h3
 refine znt ?_
 refine zsr ?_
 refine zwv (iN .u32 n) ?_
 refine zwu (run_and32 (a := n) (b := 65535) (by kernel_rfl) (by kernel_rfl) (by omega) (by decide)) ?_
 refine zwv (iN .u32 n) ?_
 refine zwu (run_shr (k2 := .u64) (k := .u32) (a := n) (b := 16) (by decide)) ?_
 refine zwu (run_build2 (a := n &&& 65535) (b := n / 2 ^ 16) (by kernel_rfl) (by kernel_rfl) (by rw [and16]; omega) (by omega)) ?_
 refine wl_fill (c' := rl ((n &&& 65535) + n / 2 ^ 16 * 65536)) h3 0 rfl (rl_sz _ _) (info_rl _) (one_rl _) ?_
 intro w4 (h5 : HA w [(q1, 51, rl ((n &&& 65535) + n / 2 ^ 16 * 65536))] w4)
 refine znt ?_
 refine wp_ret ?_
 repeat first | refine then_ret ?_ | refine block_ret ?_
 exact bodyPost_ret (v := rarr ((n &&& 65535) + n / 2 ^ 16 * 65536)) (res_cell (p := 2) (by kernel_rfl) (by kernel_rfl) (h5.get 0 rfl) Tryz.underlying51 rfl (info_rl _)) rfl ⟨by rw [small16], h5.old⟩
theorem less_start {a b : Nat} (ha : a < 65536 ^ 16) (hb : b < 65536 ^ 16) : a / 65536 ^ (16 - 0) = b / 65536 ^ (16 - 0) := by
 rw [Nat.sub_zero, Nat.div_eq_of_lt ha, Nat.div_eq_of_lt hb]
theorem less_end {a b : Nat} (h : a / 65536 ^ (16 - 16) = b / 65536 ^ (16 - 16)) : ¬ a < b := by
 rw [Nat.sub_self, Nat.pow_zero, Nat.div_one, Nat.div_one] at h
 omega
theorem rless_any (a b : Nat) (ha : a < 65536 ^ 16) (hb : b < 65536 ^ 16) (w : World) : Calls Tryz.prog 106 #[rarr a, rarr b] w fun e w' => e = .returned (.bool (decide (a < b))) ∧ Below w.heap.size w w' := by
 have H0 := HA.start w
 go_enter Tryz.func106, Tryz.ntmps106
 refine zsr ?_
 refine wl_make H0 51 (run_box32 (c := rl a)) ?_
 intro q1 w2 h3
 refine wl_make h3 51 (run_box32 (c := rl b)) ?_
 intro q4 w5 h6
 refine zwv (.bool false) ?_
 refine znt ?_
 refine wp_seq ?_
 refine zsr ?_
 refine zwv (iN .i64 15) ?_
 refine znt ?_
 refine wp_block ?_
 refine wp_count (fun k A w' => ∃ u : Nat → Value, A = ⟨(rarr a :: rarr b :: pt q1 :: pt q4 :: u 4 :: dnv (16 - k) :: u 6 :: u 7 :: u 8 :: u 9 :: u 10 :: u 11 :: u 12 :: u 13 :: u 14 :: u 15 :: u 16 :: u 17 :: u 18 :: u 19 :: u 20 :: u 21 :: u 22 :: u 23 :: List.replicate 0 un).toArray, []⟩ ∧ HA w [(q4, 51, rl b), (q1, 51, rl a)] w' ∧ a / 65536 ^ (16 - k) = b / 65536 ^ (16 - k)) 16 ?_ ?_ ?_
 ·exact zex ⟨h6, less_start ha hb⟩
 ·rintro k hk _ w7 ⟨u, rfl, h8, hp⟩
  obtain ⟨j, hj, ej⟩ : ∃ j, j < 16 ∧ 16 - k = j + 1 := ⟨15 - k, by omega, by omega⟩
  have ej2 : 16 - (k + 1) = j := by omega
  rw [ej] at hp
  rw [ej, ej2]
  have hs := less_step 65536 a b j hp
  by_cases hxy : a / 65536 ^ j % 65536 = b / 65536 ^ j % 65536
  ·refine wp_seq ?_
   refine zsr ?_
   refine zwv (iN .i64 j) ?_
   refine zwu (run_geq0 (k := .i64) (a := ((j : Nat) : Int)) (b := 0) true (decide_eq_true (by omega))) ?_
   refine znt ?_
   refine zct ?_
   refine wp_skip ?_
   refine then_at rfl ?_
   refine wp_seq ?_
   refine wp_block ?_
   refine wp_seq ?_
   refine zrs ⟨(rarr a :: rarr b :: pt q1 :: pt q4 :: u 4 :: iN .i64 j :: iN .i64 j :: .bool true :: u 8 :: u 9 :: iN .i64 j :: .pointer (some ⟨q1, j, none⟩) :: iN .u32 (a / 65536 ^ j % 65536) :: iN .i64 j :: .pointer (some ⟨q4, j, none⟩) :: iN .u32 (b / 65536 ^ j % 65536) :: .bool false :: u 17 :: u 18 :: u 19 :: u 20 :: u 21 :: u 22 :: u 23 :: List.replicate 0 un).toArray, []⟩ (HA w [(q4, 51, rl b), (q1, 51, rl a)]) h8.drew ?_ ?_
   ·refine zsp (iN .i64 j) ?_
    refine zst (fun _ _ => (run_addr_arr (q := q1) (a := j) Tryz.underlying51 Tryz.sizeOf49 (by omega))) ?_
    refine zst (fun _ h => run_load1 Tryz.isAgg49 (((h.get 1 rfl).cell j).trans (rl_get a j (by omega)))) ?_
    refine zsp (iN .i64 j) ?_
    refine zst (fun _ _ => (run_addr_arr (q := q4) (a := j) Tryz.underlying51 Tryz.sizeOf49 (by omega))) ?_
    refine zst (fun _ h => run_load1 Tryz.isAgg49 (((h.get 0 rfl).cell j).trans (rl_get b j (by omega)))) ?_
    refine zst (v := .bool false) (fun _ _ => (run_nei (k := .u32) (a := a / 65536 ^ j % 65536) (b := b / 65536 ^ j % 65536) false (by rw [decide_eq_false]; exact fun h => h hxy))) ?_
    exact AllSure.nil
   intro w9 h10
   refine then_at rfl ?_
   refine zcf ?_
   refine wp_skip ?_
   refine block_normal ?_
   refine then_at rfl ?_
   refine wl_region ?_
   refine zwv (iN .i64 j) ?_
   refine zwu (run_dec (j := j) (by omega)) ?_
   refine zwv (dnv j) ?_
   refine wl_nil ?_
   exact then_I (zex ⟨h10, hs.1 hxy⟩)
  ·refine wp_seq ?_
   refine zsr ?_
   refine zwv (iN .i64 j) ?_
   refine zwu (run_geq0 (k := .i64) (a := ((j : Nat) : Int)) (b := 0) true (decide_eq_true (by omega))) ?_
   refine znt ?_
   refine zct ?_
   refine wp_skip ?_
   refine then_at rfl ?_
   refine wp_seq ?_
   refine wp_block ?_
   refine wp_seq ?_
   refine zrs ⟨(rarr a :: rarr b :: pt q1 :: pt q4 :: u 4 :: iN .i64 j :: iN .i64 j :: .bool true :: u 8 :: u 9 :: iN .i64 j :: .pointer (some ⟨q1, j, none⟩) :: iN .u32 (a / 65536 ^ j % 65536) :: iN .i64 j :: .pointer (some ⟨q4, j, none⟩) :: iN .u32 (b / 65536 ^ j % 65536) :: .bool true :: u 17 :: u 18 :: u 19 :: u 20 :: u 21 :: u 22 :: u 23 :: List.replicate 0 un).toArray, []⟩ (HA w [(q4, 51, rl b), (q1, 51, rl a)]) h8.drew ?_ ?_
   ·refine zsp (iN .i64 j) ?_
    refine zst (fun _ _ => (run_addr_arr (q := q1) (a := j) Tryz.underlying51 Tryz.sizeOf49 (by omega))) ?_
    refine zst (fun _ h => run_load1 Tryz.isAgg49 (((h.get 1 rfl).cell j).trans (rl_get a j (by omega)))) ?_
    refine zsp (iN .i64 j) ?_
    refine zst (fun _ _ => (run_addr_arr (q := q4) (a := j) Tryz.underlying51 Tryz.sizeOf49 (by omega))) ?_
    refine zst (fun _ h => run_load1 Tryz.isAgg49 (((h.get 0 rfl).cell j).trans (rl_get b j (by omega)))) ?_
    refine zst (fun _ _ => (run_nei (k := .u32) (a := a / 65536 ^ j % 65536) (b := b / 65536 ^ j % 65536) true (decide_eq_true hxy))) ?_
    exact AllSure.nil
   intro w11 h12
   refine then_at rfl ?_
   refine zct ?_
   refine wp_seq ?_
   refine zrs ⟨(rarr a :: rarr b :: pt q1 :: pt q4 :: .bool (decide (a / 65536 ^ j % 65536 < b / 65536 ^ j % 65536)) :: iN .i64 j :: iN .i64 j :: .bool true :: u 8 :: u 9 :: iN .i64 j :: .pointer (some ⟨q1, j, none⟩) :: iN .u32 (a / 65536 ^ j % 65536) :: iN .i64 j :: .pointer (some ⟨q4, j, none⟩) :: iN .u32 (b / 65536 ^ j % 65536) :: .bool true :: iN .i64 j :: .pointer (some ⟨q1, j, none⟩) :: iN .u32 (a / 65536 ^ j % 65536) :: iN .i64 j :: .pointer (some ⟨q4, j, none⟩) :: iN .u32 (b / 65536 ^ j % 65536) :: .bool (decide (a / 65536 ^ j % 65536 < b / 65536 ^ j % 65536)) :: List.replicate 0 un).toArray, []⟩ (HA w [(q4, 51, rl b), (q1, 51, rl a)]) h12.drew ?_ ?_
   ·refine zsp (iN .i64 j) ?_
    refine zst (fun _ _ => (run_addr_arr (q := q1) (a := j) Tryz.underlying51 Tryz.sizeOf49 (by omega))) ?_
    refine zst (fun _ h => run_load1 Tryz.isAgg49 (((h.get 1 rfl).cell j).trans (rl_get a j (by omega)))) ?_
    refine zsp (iN .i64 j) ?_
    refine zst (fun _ _ => (run_addr_arr (q := q4) (a := j) Tryz.underlying51 Tryz.sizeOf49 (by omega))) ?_
    refine zst (fun _ h => run_load1 Tryz.isAgg49 (((h.get 0 rfl).cell j).trans (rl_get b j (by omega)))) ?_
    refine zst (fun _ _ => (run_lss (k := .u32) (a := a / 65536 ^ j % 65536) (b := b / 65536 ^ j % 65536) _ rfl)) ?_
    refine zsp (.bool (decide (a / 65536 ^ j % 65536 < b / 65536 ^ j % 65536))) ?_
    exact AllSure.nil
   intro w13 h14
   refine then_at rfl ?_
   refine wp_ret ?_
   repeat first | refine then_ret ?_ | refine block_ret ?_
   exact bodyPost_ret (v := .bool (decide (a / 65536 ^ j % 65536 < b / 65536 ^ j % 65536))) (by kernel_rfl) rfl ⟨by rw [decide_eq_decide.2 (hs.2 hxy)], h14.old⟩
 ·rintro _ w15 ⟨u, rfl, h16, hp⟩
  refine wp_seq ?_
  refine zsr ?_
  refine zwv (dnv 0) ?_
  refine zwu (run_geq0 (k := .i64) (a := -1) (b := 0) false (by decide)) ?_
  refine znt ?_
  refine zcf ?_
  refine wp_exit ?_
  repeat first | refine then_exit ?_ | refine block_exit ?_ | refine block_exit_ne (by decide) ?_
  refine then_at rfl ?_
  refine zsr ?_
  refine zwv (.bool false) ?_
  refine znt ?_
  refine wp_ret ?_
  repeat first | refine then_ret ?_ | refine block_ret ?_
  exact bodyPost_ret (v := .bool false) (by kernel_rfl) rfl ⟨by rw [decide_eq_false (less_end hp)], h16.old⟩
end Go.Proofs.YtefjnfeckenmkaaGreatDoor

namespace Go.Proofs.YtefjnfeckenmkaaGreatDoor
open Go.RowKit Num
def by8 (m : Nat) : Array Value := cl .u8 (digs 256 32 m)
theorem by8_size (m : Nat) : (by8 m).size = 32 := rfl
theorem pow2 (k : Nat) : 65536 ^ k = 256 ^ (2 * k) := by rw [show (65536 : Nat) = 256 ^ 2 from rfl, ← Nat.pow_mul]
def sb (s : ByteArray) (i : Nat) : Nat := numS s / 256 ^ i % 256
theorem sb_lt (s : ByteArray) (i : Nat) : sb s i < 256 := Nat.mod_lt _ (by decide)
theorem sb_get (s : ByteArray) (i : Nat) (h : i < s.size) : (s.get i h).toNat = sb s i := by
 unfold sb numS
 have hl : (bts s).length = s.size := bts_length s
 have h1 : digs 256 (bts s).length (num 256 (bts s)) = bts s := digs_num 256 (bts s) (bts_lt s) _ rfl
 have h2 := digs_get 256 (bts s).length (num 256 (bts s)) i (by rw [digs_length]; omega)
 rw [← h2]
 simp only [h1]
 simp [bts]
 rfl
theorem run_sidx {ρ : Operand → Value} {x y : Operand} {s : ByteArray} {a : Nat} {w : World} {dst : Option Tmp} {ty : TypeId} {pos : String} {aft : Array Edge} {gd : Option (Nat × Bool)}   (ha : a < s.size) (hx : ρ x = .string s := by kernel_rfl) (hy : ρ y = iN .i64 a := by kernel_rfl) :
  (execOp ρ ⟨dst, .index 9 x y, ty, pos, aft, gd⟩).run Tryz.prog w = .ok (.value (iN .u8 (sb s a))) w := by
 rw [← sb_get s a ha]
 exact run_index_str Tryz.underlying9 hx hy ha
theorem or16 (x y : Nat) (hx : x < 256) : x ||| y * 2 ^ 8 = x + y * 256 := by
 rw [Nat.or_comm, nat_join 8 (y * 2 ^ 8) x (Nat.mul_mod_left ..) hx]
 omega
theorem dig16 (s : ByteArray) (k : Nat) : numS s % 65536 ^ k + (sb s (2 * k) ||| sb s (2 * k + 1) * 2 ^ 8) * 65536 ^ k = numS s % 65536 ^ (k + 1) := by
 rw [or16 _ _ (sb_lt s _), Nat.pow_succ, Nat.mod_mul]
 unfold sb
 rw [pow2, Nat.pow_succ, ← Nat.div_div_eq_div_mul]
 generalize numS s / 256 ^ (2 * k) = d
 have e : d % 65536 = d % 256 + d / 256 % 256 * 256 := by omega
 rw [e, Nat.mul_comm (256 ^ (2 * k))]
end Go.Proofs.YtefjnfeckenmkaaGreatDoor

namespace Go.Proofs.YtefjnfeckenmkaaGreatDoor
set_option linter.unusedVariables false
set_option maxRecDepth 100000
set_option maxHeartbeats 2000000
open Go.RowKit Num
theorem sb_shl (s : ByteArray) (i : Nat) : sb s i * 2 ^ 8 < 4294967296 := by have := sb_lt s i; omega
theorem sb_shl_top (s : ByteArray) (i : Nat) : sb s i * 2 ^ 8 < top .u32 := sb_shl s i
theorem of_put (s : ByteArray) (k : Nat) (hk : k < 16) : (rl (numS s % 65536 ^ k)).setIfInBounds k (.int .u32 ((sb s (2 * k) ||| sb s (2 * k + 1) * 2 ^ 8 : Nat) : Int)) = rl (numS s % 65536 ^ (k + 1)) := by
 rw [← dig16 s k]
 refine rl_put _ k _ (Nat.mod_lt _ (Nat.pow_pos (by decide))) hk ?_
 rw [or16 _ _ (sb_lt s _)]
 have := sb_lt s (2 * k)
 have := sb_lt s (2 * k + 1)
 omega
theorem rless_yes (a b : Nat) (ha : a < 65536 ^ 16) (hb : b < 65536 ^ 16) (h : a < b) (w : World) : Calls Tryz.prog 106 #[rarr a, rarr b] w fun e w' => e = .returned (.bool true) ∧ Below w.heap.size w w' := by
 have h1 := rless_any a b ha hb w
 rw [decide_eq_true h] at h1
 exact h1
theorem rless_no (a b : Nat) (ha : a < 65536 ^ 16) (hb : b < 65536 ^ 16) (h : ¬ a < b) (w : World) : Calls Tryz.prog 106 #[rarr a, rarr b] w fun e w' => e = .returned (.bool false) ∧ Below w.heap.size w w' := by
 have h1 := rless_any a b ha hb w
 rw [decide_eq_false h] at h1
 exact h1
theorem rof_yes (s : ByteArray) (hl : s.size = 32) (hP : numS s % 65536 ^ 16 < P) (w : World) : Calls Tryz.prog 73 #[.string s] w fun e w' => e = .returned (.tuple #[rarr (numS s % 65536 ^ 16), .bool true]) ∧ Below w.heap.size w w' := by
 have H0 := HA.start w
 go_enter Tryz.func73, Tryz.ntmps73
 refine zsr ?_
 refine wl_make H0 51 run_alloc32 ?_
 intro q1 w2 h3
 refine zwv (.bool false) ?_
 refine znt ?_
 refine wp_seq ?_
 refine zsr ?_
 refine zwv (.string s) ?_
 refine zwu (run_len (s := s)) ?_
 refine zwu (run_nei (k := .i64) (a := s.size) (b := 32) false (decide_eq_false (fun h => h hl))) ?_
 refine znt ?_
 refine zcf ?_
 refine wp_skip ?_
 refine then_at rfl ?_
 refine zsr ?_
 refine wl_make h3 51 run_alloc32 ?_
 intro q4 w5 h6
 refine znt ?_
 refine wp_seq ?_
 refine zsr ?_
 refine zwv (iN .i64 0) ?_
 refine znt ?_
 refine wp_block ?_
 refine wp_count (fun k A w' => ∃ u : Nat → Value, A = ⟨(.string s :: un :: pt q1 :: .bool false :: pt q4 :: iN .i64 k :: .string s :: iN .i64 s.size :: .bool false :: un :: u 10 :: u 11 :: u 12 :: u 13 :: u 14 :: u 15 :: u 16 :: u 17 :: u 18 :: u 19 :: u 20 :: u 21 :: u 22 :: u 23 :: u 24 :: u 25 :: u 26 :: u 27 :: u 28 :: List.replicate 6 un).toArray, []⟩ ∧ HA w [(q4, 51, rl (numS s % 65536 ^ k)), (q1, 51, rl 0)] w') 16 ?_ ?_ ?_
 ·exact ⟨fun i => (([(10, undef), (11, undef), (12, undef), (13, undef), (14, undef), (15, undef), (16, undef), (17, undef), (18, undef), (19, undef), (20, undef), (21, undef), (22, undef), (23, undef), (24, undef), (25, undef), (26, undef), (27, undef), (28, undef)] : List (Nat × Value)).find? (·.1 == i)).elim undef (·.2), by kernel_rfl, (by rw [Nat.pow_zero, Nat.mod_one]; exact h6)⟩
 ·rintro k hk _ w7 ⟨u, rfl, h8⟩
  refine wp_seq ?_
  refine zsr ?_
  refine zwv (iN .i64 k) ?_
  refine zwu (run_lss (k := .i64) (a := k) (b := 16) true (decide_eq_true hk)) ?_
  refine znt ?_
  refine zct ?_
  refine wp_skip ?_
  refine then_at rfl ?_
  refine wp_seq ?_
  refine wp_block ?_
  refine zrg (fun _ : Nat → Nat => (⟨(.string s :: un :: pt q1 :: .bool false :: pt q4 :: iN .i64 k :: .string s :: iN .i64 s.size :: .bool false :: un :: iN .i64 k :: .bool true :: u 12 :: u 13 :: iN .i64 k :: .string s :: iN .i64 k :: iN .i64 (2 * k) :: iN .u8 (sb s (2 * k)) :: iN .u32 (sb s (2 * k)) :: .string s :: iN .i64 k :: iN .i64 (2 * k) :: iN .i64 ((2 * k) + 1) :: iN .u8 (sb s ((2 * k) + 1)) :: iN .u32 (sb s ((2 * k) + 1)) :: iN .u32 ((sb s ((2 * k) + 1)) * 2 ^ 8) :: iN .u32 ((sb s (2 * k)) ||| ((sb s ((2 * k) + 1)) * 2 ^ 8)) :: .pointer (some ⟨q4, k, none⟩) :: List.replicate 6 un).toArray, []⟩ : Act)) (GP w [(q4, 51, rl (numS s % 65536 ^ k)), (q1, 51, rl 0)] 15 0 q4 51 (rl (numS s % 65536 ^ (k + 1)))) (fun d hd => GP.start h8.drew (hd 15 (by decide))) ?_ ?_
  ·refine zg (gp_plain (v := iN .i64 k) (fun _ _ => (by kernel_rfl))) ?_
   refine zg (gp_plain (v := .string s) (fun _ _ => (by kernel_rfl))) ?_
   refine zg (gp_plain (v := iN .i64 k) (fun _ _ => (by kernel_rfl))) ?_
   refine zg (gp_plain (v := iN .i64 (2 * k)) (fun _ _ => (run_mul (k := .i64) (a := 2) (b := k) (by simp only [top]; omega)))) ?_
   refine zg (gp_plain (v := iN .u8 (sb s (2 * k))) (fun _ _ => (run_sidx (s := s) (a := 2 * k) (by omega)))) ?_
   refine zg (gp_plain (v := iN .u32 (sb s (2 * k))) (fun _ _ => (run_conv (k := .u8) (a := sb s (2 * k)) .u32 Tryz.underlying5 Tryz.underlying49 (Nat.lt_trans (sb_lt s _) (by decide))))) ?_
   refine zg (gp_plain (v := .string s) (fun _ _ => (by kernel_rfl))) ?_
   refine zg (gp_plain (v := iN .i64 k) (fun _ _ => (by kernel_rfl))) ?_
   refine zg (gp_plain (v := iN .i64 (2 * k)) (fun _ _ => (run_mul (k := .i64) (a := 2) (b := k) (by simp only [top]; omega)))) ?_
   refine zg (gp_plain (v := iN .i64 ((2 * k) + 1)) (fun _ _ => (run_add (k := .i64) (a := 2 * k) (b := 1) (by simp only [top]; omega)))) ?_
   refine zg (gp_plain (v := iN .u8 (sb s ((2 * k) + 1))) (fun _ _ => (run_sidx (s := s) (a := (2 * k) + 1) (by omega)))) ?_
   refine zg (gp_plain (v := iN .u32 (sb s ((2 * k) + 1))) (fun _ _ => (run_conv (k := .u8) (a := sb s ((2 * k) + 1)) .u32 Tryz.underlying5 Tryz.underlying49 (Nat.lt_trans (sb_lt s _) (by decide))))) ?_
   refine zg (gp_plain (v := iN .u32 ((sb s ((2 * k) + 1)) * 2 ^ 8)) (fun _ _ => (run_shl (k2 := .u64) (k := .u32) (a := sb s ((2 * k) + 1)) (b := 8) (sb_shl_top s _)))) ?_
   refine zg (gp_plain (v := iN .u32 ((sb s (2 * k)) ||| ((sb s ((2 * k) + 1)) * 2 ^ 8))) (fun _ _ => (run_or32 (a := sb s (2 * k)) (b := (sb s ((2 * k) + 1)) * 2 ^ 8) (by kernel_rfl) (by kernel_rfl) (Nat.lt_trans (sb_lt s _) (by decide)) (sb_shl s _)))) ?_
   refine zg (gp_plain (v := .pointer (some ⟨q4, k, none⟩)) (fun _ _ => (run_addr_arr (q := q4) (a := k) Tryz.underlying51 Tryz.sizeOf49 (by omega)))) ?_
   refine zg (gp_put (k := .u32) (z := (((sb s (2 * k)) ||| ((sb s ((2 * k) + 1)) * 2 ^ 8) : Nat) : Int)) (off := k) rfl (by rw [rl_size]; omega) (of_put s k hk) Tryz.sizeOf49) ?_
   exact AllGhost.nil
  intro _ w9 g10
  have h11 : HA w [(q4, 51, rl (numS s % 65536 ^ (k + 1))), (q1, 51, rl 0)] w9 := g10
  clear g10
  refine block_normal ?_
  refine then_at rfl ?_
  refine wl_region ?_
  refine zwv (iN .i64 k) ?_
  refine zwu (run_add (k := .i64) (a := k) (b := 1) (by simp only [top]; omega)) ?_
  refine zwv (iN .i64 (k + 1)) ?_
  refine wl_nil ?_
  exact then_I ⟨fun i => (([(10, iN .i64 k), (11, .bool true), (12, iN .i64 k), (13, iN .i64 (k + 1)), (14, iN .i64 k), (15, .string s), (16, iN .i64 k), (17, iN .i64 (2 * k)), (18, iN .u8 (sb s (2 * k))), (19, iN .u32 (sb s (2 * k))), (20, .string s), (21, iN .i64 k), (22, iN .i64 (2 * k)), (23, iN .i64 ((2 * k) + 1)), (24, iN .u8 (sb s ((2 * k) + 1))), (25, iN .u32 (sb s ((2 * k) + 1))), (26, iN .u32 ((sb s ((2 * k) + 1)) * 2 ^ 8)), (27, iN .u32 ((sb s (2 * k)) ||| ((sb s ((2 * k) + 1)) * 2 ^ 8))), (28, .pointer (some ⟨q4, k, none⟩))] : List (Nat × Value)).find? (·.1 == i)).elim undef (·.2), by kernel_rfl, h11⟩
 ·rintro _ w12 ⟨u, rfl, h13⟩
  refine wp_seq ?_
  refine zsr ?_
  refine zwv (iN .i64 16) ?_
  refine zwu (run_lss (k := .i64) (a := 16) (b := 16) false (by decide)) ?_
  refine znt ?_
  refine zcf ?_
  refine wp_exit ?_
  repeat first | refine then_exit ?_ | refine block_exit ?_ | refine block_exit_ne (by decide) ?_
  refine then_at rfl ?_
  refine wp_seq ?_
  refine wp_seq ?_
  refine zrs ⟨(.string s :: un :: pt q1 :: .bool false :: pt q4 :: iN .i64 16 :: .string s :: iN .i64 s.size :: .bool false :: un :: iN .i64 16 :: .bool false :: u 12 :: u 13 :: u 14 :: u 15 :: u 16 :: u 17 :: u 18 :: u 19 :: u 20 :: u 21 :: u 22 :: u 23 :: u 24 :: u 25 :: u 26 :: u 27 :: u 28 :: rarr (numS s % 65536 ^ 16) :: rarr P :: .bool true :: .bool false :: List.replicate 2 un).toArray, []⟩ (HA w [(q4, 51, rl (numS s % 65536 ^ 16)), (q1, 51, rl 0)]) h13.drew ?_ ?_
  ·refine zst (v := rarr (numS s % 65536 ^ 16)) (fun _ h => run_load_blk (h.get 0 rfl) Tryz.underlying51 rfl (info_rl _)) ?_
   refine zsc enter85 HA.keep (fun w' h' => rprime_any w') ?_
   refine zsc (v := .bool true) (args := #[rarr (numS s % 65536 ^ 16), rarr P]) enter84 HA.keep (fun w' h' => rless_yes (numS s % 65536 ^ 16) P (Nat.mod_lt _ (by decide)) (by decide) hP w') ?_
   refine zsp (.bool false) ?_
   exact AllSure.nil
  intro w14 h15
  refine then_at rfl ?_
  refine zcf ?_
  refine wp_skip ?_
  refine then_at rfl ?_
  refine zsr ?_
  refine wl_load h15 0 rfl Tryz.underlying51 rfl (info_rl _) ?_
  refine wl_fill (c' := rl (numS s % 65536 ^ 16)) h15 1 rfl (rl_sz _ _) (info_rl _) (one_rl _) ?_
  intro w16 (h17 : HA w [(q4, 51, rl (numS s % 65536 ^ 16)), (q1, 51, rl (numS s % 65536 ^ 16))] w16)
  refine zwv (.bool true) ?_
  refine znt ?_
  refine wp_ret ?_
  repeat first | refine then_ret ?_ | refine block_ret ?_
  exact bodyPost_ret (res_cell_tmp (p := 2) (r := 3) (by kernel_rfl) (by kernel_rfl) (by kernel_rfl) (h17.get 1 rfl) Tryz.underlying51 rfl (info_rl _)) rfl ⟨rfl, h17.old⟩
theorem rof_no (s : ByteArray) (hl : s.size = 32) (hP : ¬ numS s % 65536 ^ 16 < P) (w : World) : Calls Tryz.prog 73 #[.string s] w fun e w' => e = .returned (.tuple #[rarr 0, .bool false]) ∧ Below w.heap.size w w' := by
 have H0 := HA.start w
 go_enter Tryz.func73, Tryz.ntmps73
 refine zsr ?_
 refine wl_make H0 51 run_alloc32 ?_
 intro q1 w2 h3
 refine zwv (.bool false) ?_
 refine znt ?_
 refine wp_seq ?_
 refine zsr ?_
 refine zwv (.string s) ?_
 refine zwu (run_len (s := s)) ?_
 refine zwu (run_nei (k := .i64) (a := s.size) (b := 32) false (decide_eq_false (fun h => h hl))) ?_
 refine znt ?_
 refine zcf ?_
 refine wp_skip ?_
 refine then_at rfl ?_
 refine zsr ?_
 refine wl_make h3 51 run_alloc32 ?_
 intro q4 w5 h6
 refine znt ?_
 refine wp_seq ?_
 refine zsr ?_
 refine zwv (iN .i64 0) ?_
 refine znt ?_
 refine wp_block ?_
 refine wp_count (fun k A w' => ∃ u : Nat → Value, A = ⟨(.string s :: un :: pt q1 :: .bool false :: pt q4 :: iN .i64 k :: .string s :: iN .i64 s.size :: .bool false :: un :: u 10 :: u 11 :: u 12 :: u 13 :: u 14 :: u 15 :: u 16 :: u 17 :: u 18 :: u 19 :: u 20 :: u 21 :: u 22 :: u 23 :: u 24 :: u 25 :: u 26 :: u 27 :: u 28 :: List.replicate 6 un).toArray, []⟩ ∧ HA w [(q4, 51, rl (numS s % 65536 ^ k)), (q1, 51, rl 0)] w') 16 ?_ ?_ ?_
 ·exact ⟨fun i => (([(10, undef), (11, undef), (12, undef), (13, undef), (14, undef), (15, undef), (16, undef), (17, undef), (18, undef), (19, undef), (20, undef), (21, undef), (22, undef), (23, undef), (24, undef), (25, undef), (26, undef), (27, undef), (28, undef)] : List (Nat × Value)).find? (·.1 == i)).elim undef (·.2), by kernel_rfl, (by rw [Nat.pow_zero, Nat.mod_one]; exact h6)⟩
 ·rintro k hk _ w7 ⟨u, rfl, h8⟩
  refine wp_seq ?_
  refine zsr ?_
  refine zwv (iN .i64 k) ?_
  refine zwu (run_lss (k := .i64) (a := k) (b := 16) true (decide_eq_true hk)) ?_
  refine znt ?_
  refine zct ?_
  refine wp_skip ?_
  refine then_at rfl ?_
  refine wp_seq ?_
  refine wp_block ?_
  refine zrg (fun _ : Nat → Nat => (⟨(.string s :: un :: pt q1 :: .bool false :: pt q4 :: iN .i64 k :: .string s :: iN .i64 s.size :: .bool false :: un :: iN .i64 k :: .bool true :: u 12 :: u 13 :: iN .i64 k :: .string s :: iN .i64 k :: iN .i64 (2 * k) :: iN .u8 (sb s (2 * k)) :: iN .u32 (sb s (2 * k)) :: .string s :: iN .i64 k :: iN .i64 (2 * k) :: iN .i64 ((2 * k) + 1) :: iN .u8 (sb s ((2 * k) + 1)) :: iN .u32 (sb s ((2 * k) + 1)) :: iN .u32 ((sb s ((2 * k) + 1)) * 2 ^ 8) :: iN .u32 ((sb s (2 * k)) ||| ((sb s ((2 * k) + 1)) * 2 ^ 8)) :: .pointer (some ⟨q4, k, none⟩) :: List.replicate 6 un).toArray, []⟩ : Act)) (GP w [(q4, 51, rl (numS s % 65536 ^ k)), (q1, 51, rl 0)] 15 0 q4 51 (rl (numS s % 65536 ^ (k + 1)))) (fun d hd => GP.start h8.drew (hd 15 (by decide))) ?_ ?_
  ·refine zg (gp_plain (v := iN .i64 k) (fun _ _ => (by kernel_rfl))) ?_
   refine zg (gp_plain (v := .string s) (fun _ _ => (by kernel_rfl))) ?_
   refine zg (gp_plain (v := iN .i64 k) (fun _ _ => (by kernel_rfl))) ?_
   refine zg (gp_plain (v := iN .i64 (2 * k)) (fun _ _ => (run_mul (k := .i64) (a := 2) (b := k) (by simp only [top]; omega)))) ?_
   refine zg (gp_plain (v := iN .u8 (sb s (2 * k))) (fun _ _ => (run_sidx (s := s) (a := 2 * k) (by omega)))) ?_
   refine zg (gp_plain (v := iN .u32 (sb s (2 * k))) (fun _ _ => (run_conv (k := .u8) (a := sb s (2 * k)) .u32 Tryz.underlying5 Tryz.underlying49 (Nat.lt_trans (sb_lt s _) (by decide))))) ?_
   refine zg (gp_plain (v := .string s) (fun _ _ => (by kernel_rfl))) ?_
   refine zg (gp_plain (v := iN .i64 k) (fun _ _ => (by kernel_rfl))) ?_
   refine zg (gp_plain (v := iN .i64 (2 * k)) (fun _ _ => (run_mul (k := .i64) (a := 2) (b := k) (by simp only [top]; omega)))) ?_
   refine zg (gp_plain (v := iN .i64 ((2 * k) + 1)) (fun _ _ => (run_add (k := .i64) (a := 2 * k) (b := 1) (by simp only [top]; omega)))) ?_
   refine zg (gp_plain (v := iN .u8 (sb s ((2 * k) + 1))) (fun _ _ => (run_sidx (s := s) (a := (2 * k) + 1) (by omega)))) ?_
   refine zg (gp_plain (v := iN .u32 (sb s ((2 * k) + 1))) (fun _ _ => (run_conv (k := .u8) (a := sb s ((2 * k) + 1)) .u32 Tryz.underlying5 Tryz.underlying49 (Nat.lt_trans (sb_lt s _) (by decide))))) ?_
   refine zg (gp_plain (v := iN .u32 ((sb s ((2 * k) + 1)) * 2 ^ 8)) (fun _ _ => (run_shl (k2 := .u64) (k := .u32) (a := sb s ((2 * k) + 1)) (b := 8) (sb_shl_top s _)))) ?_
   refine zg (gp_plain (v := iN .u32 ((sb s (2 * k)) ||| ((sb s ((2 * k) + 1)) * 2 ^ 8))) (fun _ _ => (run_or32 (a := sb s (2 * k)) (b := (sb s ((2 * k) + 1)) * 2 ^ 8) (by kernel_rfl) (by kernel_rfl) (Nat.lt_trans (sb_lt s _) (by decide)) (sb_shl s _)))) ?_
   refine zg (gp_plain (v := .pointer (some ⟨q4, k, none⟩)) (fun _ _ => (run_addr_arr (q := q4) (a := k) Tryz.underlying51 Tryz.sizeOf49 (by omega)))) ?_
   refine zg (gp_put (k := .u32) (z := (((sb s (2 * k)) ||| ((sb s ((2 * k) + 1)) * 2 ^ 8) : Nat) : Int)) (off := k) rfl (by rw [rl_size]; omega) (of_put s k hk) Tryz.sizeOf49) ?_
   exact AllGhost.nil
  intro _ w9 g10
  have h11 : HA w [(q4, 51, rl (numS s % 65536 ^ (k + 1))), (q1, 51, rl 0)] w9 := g10
  clear g10
  refine block_normal ?_
  refine then_at rfl ?_
  refine wl_region ?_
  refine zwv (iN .i64 k) ?_
  refine zwu (run_add (k := .i64) (a := k) (b := 1) (by simp only [top]; omega)) ?_
  refine zwv (iN .i64 (k + 1)) ?_
  refine wl_nil ?_
  exact then_I ⟨fun i => (([(10, iN .i64 k), (11, .bool true), (12, iN .i64 k), (13, iN .i64 (k + 1)), (14, iN .i64 k), (15, .string s), (16, iN .i64 k), (17, iN .i64 (2 * k)), (18, iN .u8 (sb s (2 * k))), (19, iN .u32 (sb s (2 * k))), (20, .string s), (21, iN .i64 k), (22, iN .i64 (2 * k)), (23, iN .i64 ((2 * k) + 1)), (24, iN .u8 (sb s ((2 * k) + 1))), (25, iN .u32 (sb s ((2 * k) + 1))), (26, iN .u32 ((sb s ((2 * k) + 1)) * 2 ^ 8)), (27, iN .u32 ((sb s (2 * k)) ||| ((sb s ((2 * k) + 1)) * 2 ^ 8))), (28, .pointer (some ⟨q4, k, none⟩))] : List (Nat × Value)).find? (·.1 == i)).elim undef (·.2), by kernel_rfl, h11⟩
 ·rintro _ w12 ⟨u, rfl, h13⟩
  refine wp_seq ?_
  refine zsr ?_
  refine zwv (iN .i64 16) ?_
  refine zwu (run_lss (k := .i64) (a := 16) (b := 16) false (by decide)) ?_
  refine znt ?_
  refine zcf ?_
  refine wp_exit ?_
  repeat first | refine then_exit ?_ | refine block_exit ?_ | refine block_exit_ne (by decide) ?_
  refine then_at rfl ?_
  refine wp_seq ?_
  refine wp_seq ?_
  refine zrs ⟨(.string s :: un :: pt q1 :: .bool false :: pt q4 :: iN .i64 16 :: .string s :: iN .i64 s.size :: .bool false :: un :: iN .i64 16 :: .bool false :: u 12 :: u 13 :: u 14 :: u 15 :: u 16 :: u 17 :: u 18 :: u 19 :: u 20 :: u 21 :: u 22 :: u 23 :: u 24 :: u 25 :: u 26 :: u 27 :: u 28 :: rarr (numS s % 65536 ^ 16) :: rarr P :: .bool false :: .bool true :: List.replicate 2 un).toArray, []⟩ (HA w [(q4, 51, rl (numS s % 65536 ^ 16)), (q1, 51, rl 0)]) h13.drew ?_ ?_
  ·refine zst (v := rarr (numS s % 65536 ^ 16)) (fun _ h => run_load_blk (h.get 0 rfl) Tryz.underlying51 rfl (info_rl _)) ?_
   refine zsc enter85 HA.keep (fun w' h' => rprime_any w') ?_
   refine zsc (v := .bool false) (args := #[rarr (numS s % 65536 ^ 16), rarr P]) enter84 HA.keep (fun w' h' => rless_no (numS s % 65536 ^ 16) P (Nat.mod_lt _ (by decide)) (by decide) hP w') ?_
   refine zsp (.bool true) ?_
   exact AllSure.nil
  intro w14 h15
  refine then_at rfl ?_
  refine zct ?_
  refine zsr ?_
  refine zwu run_build0 ?_
  refine wl_fill (c' := rl 0) h15 1 rfl (rl_sz _ _) (info_rl _) (one_rl _) ?_
  intro w16 (h17 : HA w [(q4, 51, rl (numS s % 65536 ^ 16)), (q1, 51, rl 0)] w16)
  refine zwv (.bool false) ?_
  refine znt ?_
  refine wp_ret ?_
  repeat first | refine then_ret ?_ | refine block_ret ?_
  exact bodyPost_ret (res_cell_tmp (p := 2) (r := 3) (by kernel_rfl) (by kernel_rfl) (by kernel_rfl) (h17.get 1 rfl) Tryz.underlying51 rfl (info_rl _)) rfl ⟨rfl, h17.old⟩
theorem rof_len (s : ByteArray) (hl : s.size ≠ 32) (w : World) : Calls Tryz.prog 73 #[.string s] w fun e w' => e = .returned (.tuple #[rarr 0, .bool false]) ∧ Below w.heap.size w w' := by
 have H0 := HA.start w
 go_enter Tryz.func73, Tryz.ntmps73
 refine zsr ?_
 refine wl_make H0 51 run_alloc32 ?_
 intro q1 w2 h3
 refine zwv (.bool false) ?_
 refine znt ?_
 refine wp_seq ?_
 refine zsr ?_
 refine zwv (.string s) ?_
 refine zwu (run_len (s := s)) ?_
 refine zwu (run_nei (k := .i64) (a := s.size) (b := 32) true (decide_eq_true hl)) ?_
 refine znt ?_
 refine zct ?_
 refine zsr ?_
 refine zwu run_build0 ?_
 refine wl_fill (c' := rl 0) h3 0 rfl (rl_sz _ _) (info_rl _) (one_rl _) ?_
 intro w4 (h5 : HA w [(q1, 51, rl 0)] w4)
 refine zwv (.bool false) ?_
 refine znt ?_
 refine wp_ret ?_
 repeat first | refine then_ret ?_ | refine block_ret ?_
 exact bodyPost_ret (res_cell_tmp (p := 2) (r := 3) (by kernel_rfl) (by kernel_rfl) (by kernel_rfl) (h5.get 0 rfl) Tryz.underlying51 rfl (info_rl _)) rfl ⟨rfl, h5.old⟩
end Go.Proofs.YtefjnfeckenmkaaGreatDoor

namespace Go.Proofs.YtefjnfeckenmkaaGreatDoor
open Go.RowKit Num
def bsub (a b k : Nat) : Nat := a % 65536 ^ k + 65536 ^ k - b % 65536 ^ k
def mc (a b k : Nat) : Array Value := cl .u32 (mix 65536 k (bsub a b k) (digs 65536 16 a))
theorem mc_size (a b k : Nat) (hk : k ≤ 16) : (mc a b k).size = 16 := by
 unfold mc
 rw [cl_size, mix_length _ _ _ _ (by rw [digs_length]; exact hk), digs_length]
theorem mc_get (a b k : Nat) (hk : k < 16) : (mc a b k)[k]? = some (iN .u32 (a / 65536 ^ k % 65536)) := by
 unfold mc
 rw [cl_get .u32 _ k (by rw [mix_length _ _ _ _ (by rw [digs_length]; omega), digs_length]; exact hk), mix_get _ _ _ _ (by rw [digs_length]; exact hk), digs_get]
 rfl
def brr (a b : Nat) : Nat → Nat
 | 0 => 0
 | k + 1 => bor 65536 a b (k + 1)
theorem brr_eq (a b k : Nat) : brr a b k = bor 65536 a b k := by
 cases k with
 | zero => unfold bor; rw [Nat.pow_zero, Nat.mod_one, Nat.mod_one]; rfl
 | succ k => rfl
def dsub (a b k : Nat) : Nat := a / 65536 ^ k % 65536 + 65536 - b / 65536 ^ k % 65536 - brr a b k
theorem bor16_le (a b k : Nat) : brr a b k ≤ 1 := by
 rw [brr_eq]
 unfold bor
 split <;> omega
theorem mc_put (a b k : Nat) (hk : k < 16) : (mc a b k).setIfInBounds k (.int .u32 ((dsub a b k &&& 65535 : Nat) : Int)) = mc a b (k + 1) := by
 have h := (sub_step 65536 a b k (by decide)).1
 have h2 := mix_set 65536 k (bsub a b k) (bsub a b (k + 1)) (dsub a b k % 65536) (digs 65536 16 a) (by decide) (by rw [digs_length]; exact hk) (by unfold dsub; rw [brr_eq]; exact h)
 unfold mc
 rw [← h2, and16]
 simp [cl, List.map_set]
theorem mc_end (a b : Nat) (ha : a < 65536 ^ 16) (hb : b ≤ a) : mc a b 16 = rl (a - b) := by
 unfold mc mix rl
 rw [List.drop_eq_nil_of_le (by rw [digs_length]; exact Nat.le_refl _), List.append_nil]
 congr 1
 refine digs_mod 65536 16 _ _ (by decide) ?_
 unfold bsub
 rw [Nat.mod_eq_of_lt ha, Nat.mod_eq_of_lt (Nat.lt_of_le_of_lt hb ha), show a + 65536 ^ 16 - b = (a - b) + 65536 ^ 16 by omega, Nat.add_mod_right]
theorem dsub_bor (a b k : Nat) : 1 - dsub a b k / 2 ^ 16 = brr a b (k + 1) := by
 have h := (sub_step 65536 a b k (by decide)).2
 have h1 := bor16_le a b k
 have h2 : a / 65536 ^ k % 65536 < 65536 := Nat.mod_lt _ (by decide)
 have h3 : b / 65536 ^ k % 65536 < 65536 := Nat.mod_lt _ (by decide)
 rw [← brr_eq a b k] at h
 rw [brr_eq a b (k + 1), h]
 unfold dsub
 split <;> omega
theorem dsub_lt (a b k : Nat) : dsub a b k < 131072 := by
 have h2 : a / 65536 ^ k % 65536 < 65536 := Nat.mod_lt _ (by decide)
 unfold dsub
 omega
theorem rounds_more {P : Program} {Q : Exit → Act → World → Prop} {c : Code} : ∀ (n : Nat) (a : Act) (w : World), Code.rounds P c Q n a w → Code.rounds P c Q (n + 1) a w
 | 0, _, _, h => h.elim
 | n + 1, a, w, h => by
  rw [rounds_succ] at h ⊢
  exact Code.wp_mono (fun e a w he => by cases e <;> first | exact rounds_more n a w he | exact he) h
theorem rounds_le {P : Program} {Q : Exit → Act → World → Prop} {c : Code} {n m : Nat} (h : n ≤ m) {a : Act} {w : World} (hr : Code.rounds P c Q n a w) : Code.rounds P c Q m a w := by
 induction h with
 | refl => exact hr
 | step _ ih => exact rounds_more _ _ _ ih
theorem wp_while {P : Program} {Q : Exit → Act → World → Prop} {c : Code} (I : Nat → Act → World → Prop) (m : Nat) {a : Act} {w : World} (h0 : I m a w)
  (round : ∀ m a w, I m a w → c.wp P (Exit.then (fun a' w' => ∃ m', m' < m ∧ I m' a' w') Q) a w) : (Code.loop c).wp P Q a w := by
 have key : ∀ m a w, I m a w → Code.rounds P c Q (m + 1) a w := by
  intro m
  induction m using Nat.strongRecOn with
  | ind m ih =>
   intro a w hI
   rw [rounds_succ]
   refine Code.wp_mono (fun e a w he => ?_) (round m a w hI)
   cases e with
   | normal =>
    obtain ⟨m', hm, h'⟩ := he
    exact rounds_le hm (ih m' hm a w h')
   | _ => exact he
 exact wp_loop_rounds (m + 1) (key m a w h0)
end Go.Proofs.YtefjnfeckenmkaaGreatDoor

namespace Go.Proofs.YtefjnfeckenmkaaGreatDoor
set_option linter.unusedVariables false
set_option maxRecDepth 100000
set_option maxHeartbeats 2000000
open Go.RowKit Num
theorem rminus_any (a b : Nat) (ha : a < 65536 ^ 16) (hb : b ≤ a) (w : World) : Calls Tryz.prog 132 #[rarr a, rarr b] w fun e w' => e = .returned (rarr (a - b)) ∧ Below w.heap.size w w' := by
 have H0 := HA.start w
 go_enter Tryz.func132, Tryz.ntmps132
 refine zsr ?_
 refine wl_make H0 51 (run_box32 (c := rl a)) ?_
 intro q1 w2 h3
 refine wl_make h3 51 (run_box32 (c := rl b)) ?_
 intro q4 w5 h6
 refine wl_make h6 51 run_alloc32 ?_
 intro q7 w8 h9
 refine znt ?_
 refine zsr ?_
 refine zwv (iN .u32 0) ?_
 refine znt ?_
 refine wp_seq ?_
 refine zsr ?_
 refine zwv (iN .i64 0) ?_
 refine znt ?_
 refine wp_block ?_
 refine wp_count (fun k A w' => ∃ u : Nat → Value, A = ⟨(rarr a :: rarr b :: pt q1 :: pt q4 :: pt q7 :: iN .u32 (brr a b k) :: iN .i64 k :: u 7 :: u 8 :: u 9 :: u 10 :: u 11 :: u 12 :: u 13 :: u 14 :: u 15 :: u 16 :: u 17 :: u 18 :: u 19 :: u 20 :: u 21 :: u 22 :: u 23 :: u 24 :: u 25 :: u 26 :: u 27 :: u 28 :: List.replicate 1 un).toArray, []⟩ ∧ HA w [(q7, 51, rl 0), (q4, 51, rl b), (q1, 51, mc a b k)] w') 16 ?_ ?_ ?_
 ·exact ⟨fun i => (([(7, undef), (8, undef), (9, undef), (10, undef), (11, undef), (12, undef), (13, undef), (14, undef), (15, undef), (16, undef), (17, undef), (18, undef), (19, undef), (20, undef), (21, undef), (22, undef), (23, undef), (24, undef), (25, undef), (26, undef), (27, undef), (28, undef)] : List (Nat × Value)).find? (·.1 == i)).elim undef (·.2), by kernel_rfl, h9⟩
 ·rintro k hk _ w10 ⟨u, rfl, h11⟩
  have hc := bor16_le a b k
  have hx : a / 65536 ^ k % 65536 < 65536 := Nat.mod_lt _ (by decide)
  have hy : b / 65536 ^ k % 65536 < 65536 := Nat.mod_lt _ (by decide)
  have hd := dsub_lt a b k
  have hbb := dsub_bor a b k
  rw [← hbb]
  refine wp_seq ?_
  refine zsr ?_
  refine zwv (iN .i64 k) ?_
  refine zwu (run_lss (k := .i64) (a := k) (b := 16) true (decide_eq_true hk)) ?_
  refine znt ?_
  refine zct ?_
  refine wp_skip ?_
  refine then_at rfl ?_
  refine wp_seq ?_
  refine wp_block ?_
  refine wp_seq ?_
  refine zrs ⟨(rarr a :: rarr b :: pt q1 :: pt q4 :: pt q7 :: iN .u32 (brr a b k) :: iN .i64 k :: iN .u32 (dsub a b k) :: iN .i64 k :: .bool true :: u 10 :: u 11 :: iN .i64 k :: .pointer (some ⟨q1, k, none⟩) :: iN .u32 (a / 65536 ^ k % 65536) :: iN .u32 ((a / 65536 ^ k % 65536) + 65536) :: iN .i64 k :: .pointer (some ⟨q4, k, none⟩) :: iN .u32 (b / 65536 ^ k % 65536) :: iN .u32 (((a / 65536 ^ k % 65536) + 65536) - (b / 65536 ^ k % 65536)) :: iN .u32 (brr a b k) :: iN .u32 (dsub a b k) :: u 22 :: u 23 :: u 24 :: u 25 :: u 26 :: u 27 :: u 28 :: List.replicate 1 un).toArray, []⟩ (HA w [(q7, 51, rl 0), (q4, 51, rl b), (q1, 51, mc a b k)]) h11.drew ?_ ?_
  ·refine zsp (iN .i64 k) ?_
   refine zst (fun _ _ => (run_addr_arr (q := q1) (a := k) Tryz.underlying51 Tryz.sizeOf49 (by omega))) ?_
   refine zst (fun _ h => run_load1 Tryz.isAgg49 (((h.get 2 rfl).cell k).trans (mc_get a b k hk))) ?_
   refine zst (fun _ _ => (run_add (k := .u32) (a := a / 65536 ^ k % 65536) (b := 65536) (by simp only [top]; omega))) ?_
   refine zsp (iN .i64 k) ?_
   refine zst (fun _ _ => (run_addr_arr (q := q4) (a := k) Tryz.underlying51 Tryz.sizeOf49 (by omega))) ?_
   refine zst (fun _ h => run_load1 Tryz.isAgg49 (((h.get 1 rfl).cell k).trans (rl_get b k (by omega)))) ?_
   refine zst (fun _ _ => (run_sub (k := .u32) (a := (a / 65536 ^ k % 65536) + 65536) (b := b / 65536 ^ k % 65536) (by omega) (by simp only [top]; omega))) ?_
   refine zsp (iN .u32 (brr a b k)) ?_
   refine zst (fun _ _ => (run_sub (k := .u32) (a := a / 65536 ^ k % 65536 + 65536 - b / 65536 ^ k % 65536) (b := brr a b k) (by omega) (by simp only [top]; omega))) ?_
   refine zsp (iN .u32 (dsub a b k)) ?_
   exact AllSure.nil
  intro w12 h13
  refine then_at rfl ?_
  refine zsr ?_
  refine zwv (iN .i64 k) ?_
  refine zwv (iN .u32 (dsub a b k)) ?_
  refine zwu (run_and32 (a := dsub a b k) (b := 65535) (by kernel_rfl) (by kernel_rfl) (by omega) (by decide)) ?_
  refine zwu (run_addr_arr (q := q1) (a := k) Tryz.underlying51 Tryz.sizeOf49 (by omega)) ?_
  refine wl_put (k := .u32) (z := ((dsub a b k &&& 65535 : Nat) : Int)) h13 2 rfl k (by rw [mc_size a b k (by omega)]; exact hk) Tryz.sizeOf49 ?_
  intro w14 h15
  have h16 : HA w [(q7, 51, rl 0), (q4, 51, rl b), (q1, 51, mc a b (k + 1))] w14 := (by rw [← mc_put a b k hk]; exact h15)
  clear h15
  refine znt ?_
  refine wl_region ?_
  refine zwv (iN .u32 (dsub a b k)) ?_
  refine zwu (run_shr (k2 := .u64) (k := .u32) (a := dsub a b k) (b := 16) (by decide)) ?_
  refine zwu (run_sub (k := .u32) (a := 1) (b := (dsub a b k) / 2 ^ 16) (by omega) (by simp only [top]; omega)) ?_
  refine zwv (iN .u32 (1 - ((dsub a b k) / 2 ^ 16))) ?_
  refine wl_nil ?_
  refine block_normal ?_
  refine then_at rfl ?_
  refine wl_region ?_
  refine zwv (iN .i64 k) ?_
  refine zwu (run_add (k := .i64) (a := k) (b := 1) (by simp only [top]; omega)) ?_
  refine zwv (iN .i64 (k + 1)) ?_
  refine wl_nil ?_
  exact then_I ⟨fun i => (([(7, iN .u32 (dsub a b k)), (8, iN .i64 k), (9, .bool true), (10, iN .i64 k), (11, iN .i64 (k + 1)), (12, iN .i64 k), (13, .pointer (some ⟨q1, k, none⟩)), (14, iN .u32 (a / 65536 ^ k % 65536)), (15, iN .u32 ((a / 65536 ^ k % 65536) + 65536)), (16, iN .i64 k), (17, .pointer (some ⟨q4, k, none⟩)), (18, iN .u32 (b / 65536 ^ k % 65536)), (19, iN .u32 (((a / 65536 ^ k % 65536) + 65536) - (b / 65536 ^ k % 65536))), (20, iN .u32 (brr a b k)), (21, iN .u32 (dsub a b k)), (22, iN .i64 k), (23, iN .u32 (dsub a b k)), (24, iN .u32 (dsub a b k &&& 65535)), (25, .pointer (some ⟨q1, k, none⟩)), (26, iN .u32 (dsub a b k)), (27, iN .u32 ((dsub a b k) / 2 ^ 16)), (28, iN .u32 (1 - ((dsub a b k) / 2 ^ 16)))] : List (Nat × Value)).find? (·.1 == i)).elim undef (·.2), by kernel_rfl, h16⟩
 ·rintro _ w17 ⟨u, rfl, h18⟩
  refine wp_seq ?_
  refine zsr ?_
  refine zwv (iN .i64 16) ?_
  refine zwu (run_lss (k := .i64) (a := 16) (b := 16) false (by decide)) ?_
  refine znt ?_
  refine zcf ?_
  refine wp_exit ?_
  repeat first | refine then_exit ?_ | refine block_exit ?_ | refine block_exit_ne (by decide) ?_
  have h19 : HA w [(q7, 51, rl 0), (q4, 51, rl b), (q1, 51, rl (a - b))] w17 := by rw [← mc_end a b ha hb]; exact h18
  refine then_at rfl ?_
  refine zsr ?_
  refine wl_load h19 2 rfl Tryz.underlying51 rfl (info_rl _) ?_
  refine wl_fill (c' := rl (a - b)) h19 0 rfl (rl_sz _ _) (info_rl _) (one_rl _) ?_
  intro w20 (h21 : HA w [(q7, 51, rl (a - b)), (q4, 51, rl b), (q1, 51, rl (a - b))] w20)
  refine znt ?_
  refine wp_ret ?_
  repeat first | refine then_ret ?_ | refine block_ret ?_
  exact bodyPost_ret (res_cell (p := 4) (by kernel_rfl) (by kernel_rfl) (h21.get 0 rfl) Tryz.underlying51 rfl (info_rl _)) rfl ⟨rfl, h21.old⟩
end Go.Proofs.YtefjnfeckenmkaaGreatDoor
