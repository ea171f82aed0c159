/-
 scalar: RefS0.
-/
import Derived.Test.YtefjnfeckenmkaaGreatDoorS2
namespace Go.Proofs.YtefjnfeckenmkaaGreatDoor.Sc
open Go.RowKit Num
def rl (n : Nat) : Array Value := cl .i64 (digs 256 36 n)
def rarr (n : Nat) : Value := .agg (rl n)
theorem rl_size (n : Nat) : (rl n).size = 36 := rfl
theorem rl_sz (n m : Nat) : (rl n).size = (rl m).size := rfl
theorem one_rl (n : Nat) : (rl n).all (·.oneCell') = true := one_cl _ _
theorem info37 : (Tryz.prog.info? 80).map (·.size) = some 36 := by kernel_rfl
theorem info_rl (n : Nat) : (Tryz.prog.info? 80).map (·.size) = some (rl n).size := info37
theorem rl_get (n j : Nat) (hj : j < 36) : (rl n)[j]? = some (iN .i64 (n / 256 ^ j % 256)) := by
 unfold rl
 rw [cl_get .i64 _ j (by rw [digs_length]; exact hj), digs_get]
 rfl
theorem rl_put (n j x : Nat) (hn : n < 256 ^ j) (hj : j < 36) (hx : x < 256) : (rl n).setIfInBounds j (.int .i64 (x : Int)) = rl (n + x * 256 ^ j) := by
 unfold rl
 rw [← digs_push 256 36 n j x hn hj hx]
 simp [cl, List.map_set]
section
variable {ρ : Operand → Value} {x y : Operand} {w : World} {dst : Option Tmp} {ty : TypeId} {pos : String} {aft : Array Edge} {gd : Option (Nat × Bool)}
theorem run_alloc37 : (execOp ρ ⟨dst, .alloc 80, ty, pos, aft, gd⟩).run Tryz.prog w = .ok (.value (.pointer (some ⟨w.heap.size, 0, none⟩))) (w.alloc (.cells (rl 0) 80)) := by
 simp only [execOp]
 go_simp
 rfl
theorem run_box37 {c : Array Value}  (hx : ρ x = .agg c := by kernel_rfl) : (execOp ρ ⟨dst, .box 80 x, ty, pos, aft, gd⟩).run Tryz.prog w = .ok (.value (.pointer (some ⟨w.heap.size, 0, none⟩))) (w.alloc (.cells c 80)) := by
 simp only [execOp, hx]
 go_simp
theorem run_subi {P : Program} {T T2 : TypeId} {a b : Int} (hx : ρ x = .int .i64 a) (hy : ρ y = .int .i64 b) (h0 : -1000 ≤ a - b) (h1 : a - b ≤ 1000) : (execOp ρ ⟨dst, .binOp .sub T x y T2, ty, pos, aft, gd⟩).run P w = .ok (.value (.int .i64 (a - b))) w := by
 have h : IntKind.i64.wrap (a - b) = a - b := by rw [IntKind.wrap_i64]; omega
 simp only [execOp, hx, hy]
 simpa [binOp, go_sem] using h
theorem run_addi {P : Program} {T T2 : TypeId} {a b : Int} {n : Nat} (hx : ρ x = .int .i64 a) (hy : ρ y = .int .i64 b) (h : a + b = (n : Int)) (h1 : n ≤ 1000) : (execOp ρ ⟨dst, .binOp .add T x y T2, ty, pos, aft, gd⟩).run P w = .ok (.value (iN .i64 n)) w := by
 have h : IntKind.i64.wrap (a + b) = (n : Int) := by rw [IntKind.wrap_i64]; omega
 simp only [execOp, hx, hy, iN]
 simpa [binOp, go_sem] using h
theorem run_lssi {P : Program} {T T2 : TypeId} {k : IntKind} {a b : Int} (hx : ρ x = .int k a) (hy : ρ y = .int k b) (t : Bool) (ht : decide (a < b) = t) : (execOp ρ ⟨dst, .binOp .lss T x y T2, ty, pos, aft, gd⟩).run P w = .ok (.value (.bool t)) w := by
 subst ht
 simp only [execOp, hx, hy]
 simp [binOp, go_sem]
end
def mx (N a k : Nat) : Array Value := cl .i64 (mix 256 k N (digs 256 36 a))
theorem mx_size (N a k : Nat) (hk : k ≤ 36) : (mx N a k).size = 36 := by
 unfold mx
 rw [cl_size, mix_length _ _ _ _ (by rw [digs_length]; exact hk), digs_length]
theorem mx_get (N a k : Nat) (hk : k < 36) : (mx N a k)[k]? = some (iN .i64 (a / 256 ^ k % 256)) := by
 unfold mx
 rw [cl_get .i64 _ k (by rw [mix_length _ _ _ _ (by rw [digs_length]; omega), digs_length]; exact hk), mix_get _ _ _ _ (by rw [digs_length]; exact hk), digs_get]
 rfl
theorem mx_put (N a k x : Nat) (hk : k < 36) (e : N % 256 ^ (k + 1) = N % 256 ^ k + x * 256 ^ k) : (mx N a k).setIfInBounds k (.int .i64 (x : Int)) = mx N a (k + 1) := by
 have h := mix_set 256 k N N x (digs 256 36 a) (by decide) (by rw [digs_length]; exact hk) e
 unfold mx
 rw [← h]
 simp [cl, List.map_set]
theorem mx_end (N a : Nat) : mx N a 36 = rl N := by
 unfold mx mix rl
 rw [List.drop_eq_nil_of_le (by rw [digs_length]; exact Nat.le_refl _), List.append_nil]
def cy2 (a : Nat) : Nat → Nat
 | 0 => 0
 | k + 1 => (2 * (a / 256 ^ k % 256) + cy2 a k) / 256
theorem cy2_eq (B a : Nat) : ∀ k, (hB : B = 256) → cy2 a k = 2 * (a % B ^ k) / B ^ k
 | 0, _ => by simp [cy2, Nat.mod_one]
 | k + 1, hB => by
  have h := (carry_step B (2 * (a % B ^ k)) (2 * (a % B ^ (k + 1))) k (2 * (a / B ^ k % B)) (by omega) (by rw [mod_step, Nat.mul_add, Nat.mul_assoc])).2
  rw [h, ← cy2_eq B a k hB]
  subst hB
  rfl
theorem cy2_lt (a : Nat) : ∀ k, cy2 a k < 256
 | 0 => Nat.zero_lt_succ 255
 | k + 1 => by
  have := cy2_lt a k
  show (2 * (a / 256 ^ k % 256) + cy2 a k) / 256 < 256
  omega
theorem mod_twice (B a k : Nat) (hB : B = 256) : (2 * a) % B ^ (k + 1) = (2 * a) % B ^ k + (2 * (a / B ^ k % B) + cy2 a k) % B * B ^ k := by
 have h := (carry_step B (2 * (a % B ^ k)) (2 * (a % B ^ (k + 1))) k (2 * (a / B ^ k % B)) (by omega) (by rw [mod_step, Nat.mul_add, Nat.mul_assoc])).1
 rw [Nat.mul_mod_mod, Nat.mul_mod_mod] at h
 rw [h, cy2_eq B a k hB]
def cya (a b : Nat) : Nat → Nat
 | 0 => 0
 | k + 1 => (a / 256 ^ k % 256 + b / 256 ^ k % 256 + cya a b k) / 256
theorem cya_eq (B a b : Nat) : ∀ k, (hB : B = 256) → cya a b k = (a % B ^ k + b % B ^ k) / B ^ k
 | 0, _ => by simp [cya, Nat.mod_one]
 | k + 1, hB => by
  have h := (add_step B a b k (by omega)).2
  rw [h, ← cya_eq B a b k hB]
  subst hB
  rfl
theorem cya_lt (a b : Nat) : ∀ k, cya a b k < 256
 | 0 => Nat.zero_lt_succ 255
 | k + 1 => by
  have := cya_lt a b k
  show (a / 256 ^ k % 256 + b / 256 ^ k % 256 + cya a b k) / 256 < 256
  omega
theorem mod_sum (B a b k : Nat) (hB : B = 256) : (a + b) % B ^ (k + 1) = (a + b) % B ^ k + (a / B ^ k % B + b / B ^ k % B + cya a b k) % B * B ^ k := by
 have h := (add_step B a b k (by omega)).1
 rw [← Nat.add_mod, ← Nat.add_mod] at h
 rw [h, cya_eq B a b k hB]
def bo (a b : Nat) : Nat → Nat
 | 0 => 0
 | k + 1 => if a / 256 ^ k % 256 < b / 256 ^ k % 256 + bo a b k then 1 else 0
theorem bo_eq (B a b : Nat) : ∀ k, (hB : B = 256) → bo a b k = bor B a b k
 | 0, _ => by unfold bor; rw [Nat.pow_zero, Nat.mod_one, Nat.mod_one]; rfl
 | k + 1, hB => by
  rw [(sub_step B a b k (by omega)).2, ← bo_eq B a b k hB]
  subst hB
  rfl
theorem bo_le (a b k : Nat) : bo a b k ≤ 1 := by
 rw [bo_eq 256 a b k rfl]
 unfold bor
 split <;> omega
theorem sub_mod (a b M : Nat) (hM : 0 < M) (h : b ≤ a) : (a - b) % M = (a % M + M - b % M) % M := by
 have h1 := Nat.mod_lt b hM
 have e : a - b + M * (b / M) = M * (a / M) + (a % M) - b % M := by
  have ha := Nat.mod_add_div a M
  have hb := Nat.mod_add_div b M
  omega
 have e2 : (a - b + M * (b / M)) % M = (a - b) % M := Nat.add_mul_mod_self_left _ _ _
 have e3 : (a - b + M * (b / M) + M) % M = (a - b) % M := by rw [Nat.add_mod_right, e2]
 have e4 : a - b + M * (b / M) + M = (a % M + M - b % M) + M * (a / M) := by
  have ha := Nat.mod_add_div a M
  have hb := Nat.mod_add_div b M
  omega
 rw [← e3, e4, Nat.add_mul_mod_self_left]
theorem mod_less (B a b k x : Nat) (hB : B = 256) (h : b ≤ a) (hx : x = (a / B ^ k % B + B - b / B ^ k % B - bo a b k) % B) : (a - b) % B ^ (k + 1) = (a - b) % B ^ k + x * B ^ k := by
 have hp : 0 < B := by omega
 rw [sub_mod a b _ (Nat.pow_pos hp) h, sub_mod a b (B ^ k) (Nat.pow_pos hp) h, (sub_step B a b k hp).1, hx, bo_eq B a b k hB]
end Go.Proofs.YtefjnfeckenmkaaGreatDoor.Sc

namespace Go.Proofs.YtefjnfeckenmkaaGreatDoor.Sc
set_option linter.unusedVariables false
set_option maxRecDepth 100000
set_option maxHeartbeats 2000000
open Go.RowKit Num
theorem rorder_any (w : World) :
  Calls Tryz.prog 100 #[] w fun e w' => e = .returned (rarr Lq) ∧ Below w.heap.size w w' := by
 have H0 := HA.start w
 go_enter Tryz.func100, Tryz.ntmps100
 refine zsr ?_
 refine wl_make H0 80 run_alloc37 ?_
 intro q1 w2 h3
 refine znt ?_
 refine zsr ?_
 refine zwv (rarr Lq) ?_
 refine wl_fill (c' := rl Lq) h3 0 rfl (rl_sz _ _) (info_rl _) (one_rl _) ?_
 intro w4 (h5 : HA w [(q1, 80, rl Lq)] w4)
 refine znt ?_
 refine wp_ret ?_
 repeat first | refine then_ret ?_ | refine block_ret ?_
 exact bodyPost_ret (res_cell (p := 0) (by kernel_rfl) (by kernel_rfl) (h5.get 0 rfl) Tryz.underlying80 rfl (info_rl _)) rfl ⟨rfl, h5.old⟩
theorem rdouble_any (a : Nat) (w : World) :
  Calls Tryz.prog 101 #[rarr a] w fun e w' => e = .returned (rarr (2 * a)) ∧ Below w.heap.size w w' := by
 have H0 := HA.start w
 go_enter Tryz.func101, Tryz.ntmps101
 refine zsr ?_
 refine wl_make H0 80 (run_box37 (c := rl a)) ?_
 intro q1 w2 h3
 refine wl_make h3 80 run_alloc37 ?_
 intro q4 w5 h6
 refine znt ?_
 refine zsr ?_
 refine zwv (iN .i64 0) ?_
 refine znt ?_
 refine wp_seq ?_
 refine zsr ?_
 refine zwv (iN .i64 0) ?_
 refine znt ?_
 refine wp_block ?_
 refine wp_count (fun k A w' => ∃ u7 : Nat → Value, A = ⟨(rarr a :: pt q1 :: pt q4 :: iN .i64 (cy2 a k) :: iN .i64 k :: u7 5 :: u7 6 :: u7 7 :: u7 8 :: u7 9 :: u7 10 :: u7 11 :: u7 12 :: u7 13 :: u7 14 :: u7 15 :: u7 16 :: u7 17 :: u7 18 :: u7 19 :: u7 20 :: u7 21 :: List.replicate 1 un).toArray, []⟩ ∧ HA w [(q4, 80, rl 0), (q1, 80, mx (2 * a) a k)] w') 36 ?_ ?_ ?_
 ·exact zex h6
 ·rintro k hk _ w8 ⟨u7, rfl, h9⟩
  have hd := Nat.mod_lt (a / 256 ^ k) (show 256 > 0 by decide)
  have hc := cy2_lt a k
  refine wp_seq ?_
  refine zsr ?_
  refine zwv (iN .i64 k) ?_
  refine zwu (run_lss (k := .i64) (a := k) (b := 36) true (decide_eq_true hk)) ?_
  refine znt ?_
  refine zct ?_
  refine wp_skip ?_
  refine then_at rfl ?_
  refine wp_seq ?_
  refine wp_block ?_
  refine zsr ?_
  refine zwv (iN .i64 k) ?_
  refine zwu (run_addr_arr (q := q1) (a := k) Tryz.underlying80 Tryz.sizeOf3 (by omega)) ?_
  refine zwu (run_load1 Tryz.isAgg3 (((h9.get 1 rfl).cell k).trans (mx_get (2 * a) a k hk))) ?_
  refine zwu (run_mul (k := .i64) (a := 2) (b := a / 256 ^ k % 256) (by simp only [top]; omega)) ?_
  refine zwv (iN .i64 (cy2 a k)) ?_
  refine zwu (run_add (k := .i64) (a := 2 * (a / 256 ^ k % 256)) (b := cy2 a k) (by simp only [top]; omega)) ?_
  refine zwv (iN .i64 ((2 * (a / 256 ^ k % 256)) + (cy2 a k))) ?_
  refine znt ?_
  refine zsr ?_
  refine zwv (iN .i64 k) ?_
  refine zwv (iN .i64 ((2 * (a / 256 ^ k % 256)) + (cy2 a k))) ?_
  refine zwu (run_rem (k := .i64) (a := (2 * (a / 256 ^ k % 256)) + (cy2 a k)) (b := 256) (by omega)) ?_
  refine zwu (run_addr_arr (q := q1) (a := k) Tryz.underlying80 Tryz.sizeOf3 (by omega)) ?_
  refine wl_put (k := .i64) (z := ((((2 * (a / 256 ^ k % 256)) + (cy2 a k)) % 256 : Nat) : Int)) h9 1 rfl k (by rw [mx_size _ _ _ (by omega)]; exact hk) Tryz.sizeOf3 ?_
  intro w10 h11
  have h12 : HA w [(q4, 80, rl 0), (q1, 80, mx (2 * a) a (k + 1))] w10 := (by rw [← mx_put (2 * a) a k _ hk (mod_twice 256 a k rfl)]; exact h11)
  clear h11
  refine znt ?_
  refine wl_region ?_
  refine zwv (iN .i64 ((2 * (a / 256 ^ k % 256)) + (cy2 a k))) ?_
  refine zwu (run_quo (k := .i64) (a := (2 * (a / 256 ^ k % 256)) + (cy2 a k)) (b := 256) (by omega) (by simp only [top]; omega)) ?_
  refine zwv (iN .i64 (((2 * (a / 256 ^ k % 256)) + (cy2 a k)) / 256)) ?_
  refine wl_nil ?_
  refine block_normal ?_
  refine then_at rfl ?_
  refine wl_region ?_
  refine zwv (iN .i64 k) ?_
  refine zwu (run_add (k := .i64) (a := k) (b := 1) (by simp only [top]; omega)) ?_
  refine zwv (iN .i64 (k + 1)) ?_
  refine wl_nil ?_
  exact then_I (zex h12)
 ·rintro _ w13 ⟨u7, rfl, h14⟩
  refine wp_seq ?_
  refine zsr ?_
  refine zwv (iN .i64 36) ?_
  refine zwu (run_lss (k := .i64) (a := 36) (b := 36) false (by decide)) ?_
  refine znt ?_
  refine zcf ?_
  refine wp_exit ?_
  repeat first | refine then_exit ?_ | refine block_exit ?_ | refine block_exit_ne (by decide) ?_
  have h15 : HA w [(q4, 80, rl 0), (q1, 80, rl (2 * a))] w13 := by rw [← mx_end (2 * a) (a)]; exact h14
  refine then_at rfl ?_
  refine zsr ?_
  refine wl_load h15 1 rfl Tryz.underlying80 rfl (info_rl _) ?_
  refine wl_fill (c' := rl (2 * a)) h15 0 rfl (rl_sz _ _) (info_rl _) (one_rl _) ?_
  intro w16 (h17 : HA w [(q4, 80, rl (2 * a)), (q1, 80, rl (2 * a))] w16)
  refine zna ⟨(rarr a :: pt q1 :: pt q4 :: iN .i64 (cy2 a 36) :: iN .i64 36 :: u7 5 :: iN .i64 36 :: .bool false :: u7 8 :: u7 9 :: u7 10 :: u7 11 :: u7 12 :: u7 13 :: u7 14 :: u7 15 :: u7 16 :: u7 17 :: u7 18 :: u7 19 :: u7 20 :: u7 21 :: rarr (2 * a) :: List.replicate 0 un).toArray, []⟩ ?_
  refine wp_ret ?_
  repeat first | refine then_ret ?_ | refine block_ret ?_
  exact bodyPost_ret (res_cell (p := 2) (by kernel_rfl) (by kernel_rfl) (h17.get 0 rfl) Tryz.underlying80 rfl (info_rl _)) rfl ⟨rfl, h17.old⟩
theorem rb_start {a b : Nat} (ha : a < 256 ^ 36) (hb : b < 256 ^ 36) : a / 256 ^ (36 - 0) = b / 256 ^ (36 - 0) := by
 rw [Nat.sub_zero, Nat.div_eq_of_lt ha, Nat.div_eq_of_lt hb]
theorem rb_end {a b : Nat} (h : a / 256 ^ (36 - 36) = b / 256 ^ (36 - 36)) : ¬ a < b := by
 rw [Nat.sub_self, Nat.pow_zero, Nat.div_one, Nat.div_one] at h
 omega
theorem rbelow_any (a b : Nat) (ha : a < 256 ^ 36) (hb : b < 256 ^ 36) (w : World) :
  Calls Tryz.prog 102 #[rarr a, rarr b] w fun e w' => e = .returned (.bool (decide (a < b))) ∧ Below w.heap.size w w' := by
 have H0 := HA.start w
 go_enter Tryz.func102, Tryz.ntmps102
 refine zsr ?_
 refine wl_make H0 80 (run_box37 (c := rl a)) ?_
 intro q1 w2 h3
 refine wl_make h3 80 (run_box37 (c := rl b)) ?_
 intro q4 w5 h6
 refine zwv (.bool false) ?_
 refine znt ?_
 refine wp_seq ?_
 refine zsr ?_
 refine zwv (iN .i64 35) ?_
 refine znt ?_
 refine wp_block ?_
 refine wp_count (fun k A w' => ∃ u7 : Nat → Value, A = ⟨(rarr a :: rarr b :: pt q1 :: pt q4 :: u7 4 :: dnv (36 - k) :: u7 6 :: u7 7 :: u7 8 :: u7 9 :: u7 10 :: u7 11 :: u7 12 :: u7 13 :: u7 14 :: u7 15 :: u7 16 :: u7 17 :: u7 18 :: u7 19 :: u7 20 :: u7 21 :: u7 22 :: u7 23 :: List.replicate 0 un).toArray, []⟩ ∧ HA w [(q4, 80, rl b), (q1, 80, rl a)] w' ∧ a / 256 ^ (36 - k) = b / 256 ^ (36 - k)) 36 ?_ ?_ ?_
 ·exact zex ⟨h6, rb_start ha hb⟩
 ·rintro k hk _ w8 ⟨u7, rfl, h9, hp⟩
  obtain ⟨j, hj, ej⟩ : ∃ j, j < 36 ∧ 36 - k = j + 1 := ⟨35 - k, by omega, by omega⟩
  have ej2 : 36 - (k + 1) = j := by omega
  rw [ej] at hp
  rw [ej, ej2]
  have hs := less_step 256 a b j hp
  refine wp_seq ?_
  refine zsr ?_
  refine zwv (iN .i64 j) ?_
  refine zwu (run_geq0 (k := .i64) (a := ((j : Nat) : Int)) (b := 0) true (decide_eq_true (by omega))) ?_
  refine znt ?_
  refine zct ?_
  refine wp_skip ?_
  refine then_at rfl ?_
  refine wp_seq ?_
  refine wp_block ?_
  refine wp_seq ?_
  by_cases hxy : a / 256 ^ j % 256 = b / 256 ^ j % 256
  · -- region 4
   refine zrs ⟨(rarr a :: rarr b :: pt q1 :: pt q4 :: u7 4 :: iN .i64 j :: iN .i64 j :: .bool true :: u7 8 :: u7 9 :: iN .i64 j :: .pointer (some ⟨q1, j, none⟩) :: iN .i64 (a / 256 ^ j % 256) :: iN .i64 j :: .pointer (some ⟨q4, j, none⟩) :: iN .i64 (b / 256 ^ j % 256) :: .bool false :: u7 17 :: u7 18 :: u7 19 :: u7 20 :: u7 21 :: u7 22 :: u7 23 :: List.replicate 0 un).toArray, []⟩ (HA w [(q4, 80, rl b), (q1, 80, rl a)]) h9.drew ?_ ?_
   ·refine zsp (iN .i64 j) ?_
    refine zst (fun _ _ => (run_addr_arr (q := q1) (a := j) Tryz.underlying80 Tryz.sizeOf3 (by omega))) ?_
    refine zst (fun _ h => run_load1 Tryz.isAgg3 (((h.get 1 rfl).cell j).trans (rl_get a j (by omega)))) ?_
    refine zsp (iN .i64 j) ?_
    refine zst (fun _ _ => (run_addr_arr (q := q4) (a := j) Tryz.underlying80 Tryz.sizeOf3 (by omega))) ?_
    refine zst (fun _ h => run_load1 Tryz.isAgg3 (((h.get 0 rfl).cell j).trans (rl_get b j (by omega)))) ?_
    refine zst (v := .bool false) (fun _ _ => (run_nei (k := .i64) (a := a / 256 ^ j % 256) (b := b / 256 ^ j % 256) false (by rw [decide_eq_false]; exact fun h => h hxy))) ?_
    exact AllSure.nil
   intro w10 h11
   refine then_at rfl ?_
   refine zcf ?_
   refine wp_skip ?_
   refine block_normal ?_
   refine then_at rfl ?_
   refine wl_region ?_
   refine zwv (iN .i64 j) ?_
   refine zwu (run_dec (j := j) (by omega)) ?_
   refine zwv (dnv j) ?_
   refine wl_nil ?_
   exact then_I (zex ⟨h11, hs.1 hxy⟩)
  · -- region 4
   refine zrs ⟨(rarr a :: rarr b :: pt q1 :: pt q4 :: u7 4 :: iN .i64 j :: iN .i64 j :: .bool true :: u7 8 :: u7 9 :: iN .i64 j :: .pointer (some ⟨q1, j, none⟩) :: iN .i64 (a / 256 ^ j % 256) :: iN .i64 j :: .pointer (some ⟨q4, j, none⟩) :: iN .i64 (b / 256 ^ j % 256) :: .bool true :: u7 17 :: u7 18 :: u7 19 :: u7 20 :: u7 21 :: u7 22 :: u7 23 :: List.replicate 0 un).toArray, []⟩ (HA w [(q4, 80, rl b), (q1, 80, rl a)]) h9.drew ?_ ?_
   ·refine zsp (iN .i64 j) ?_
    refine zst (fun _ _ => (run_addr_arr (q := q1) (a := j) Tryz.underlying80 Tryz.sizeOf3 (by omega))) ?_
    refine zst (fun _ h => run_load1 Tryz.isAgg3 (((h.get 1 rfl).cell j).trans (rl_get a j (by omega)))) ?_
    refine zsp (iN .i64 j) ?_
    refine zst (fun _ _ => (run_addr_arr (q := q4) (a := j) Tryz.underlying80 Tryz.sizeOf3 (by omega))) ?_
    refine zst (fun _ h => run_load1 Tryz.isAgg3 (((h.get 0 rfl).cell j).trans (rl_get b j (by omega)))) ?_
    refine zst (fun _ _ => (run_nei (k := .i64) (a := a / 256 ^ j % 256) (b := b / 256 ^ j % 256) true (decide_eq_true hxy))) ?_
    exact AllSure.nil
   intro w12 h13
   refine then_at rfl ?_
   refine zct ?_
   refine wp_seq ?_
   refine zrs ⟨(rarr a :: rarr b :: pt q1 :: pt q4 :: .bool (decide (a / 256 ^ j % 256 < b / 256 ^ j % 256)) :: iN .i64 j :: iN .i64 j :: .bool true :: u7 8 :: u7 9 :: iN .i64 j :: .pointer (some ⟨q1, j, none⟩) :: iN .i64 (a / 256 ^ j % 256) :: iN .i64 j :: .pointer (some ⟨q4, j, none⟩) :: iN .i64 (b / 256 ^ j % 256) :: .bool true :: iN .i64 j :: .pointer (some ⟨q1, j, none⟩) :: iN .i64 (a / 256 ^ j % 256) :: iN .i64 j :: .pointer (some ⟨q4, j, none⟩) :: iN .i64 (b / 256 ^ j % 256) :: .bool (decide (a / 256 ^ j % 256 < b / 256 ^ j % 256)) :: List.replicate 0 un).toArray, []⟩ (HA w [(q4, 80, rl b), (q1, 80, rl a)]) h13.drew ?_ ?_
   ·refine zsp (iN .i64 j) ?_
    refine zst (fun _ _ => (run_addr_arr (q := q1) (a := j) Tryz.underlying80 Tryz.sizeOf3 (by omega))) ?_
    refine zst (fun _ h => run_load1 Tryz.isAgg3 (((h.get 1 rfl).cell j).trans (rl_get a j (by omega)))) ?_
    refine zsp (iN .i64 j) ?_
    refine zst (fun _ _ => (run_addr_arr (q := q4) (a := j) Tryz.underlying80 Tryz.sizeOf3 (by omega))) ?_
    refine zst (fun _ h => run_load1 Tryz.isAgg3 (((h.get 0 rfl).cell j).trans (rl_get b j (by omega)))) ?_
    refine zst (fun _ _ => (run_lss (k := .i64) (a := a / 256 ^ j % 256) (b := b / 256 ^ j % 256) _ rfl)) ?_
    refine zsp (.bool (decide (a / 256 ^ j % 256 < b / 256 ^ j % 256))) ?_
    exact AllSure.nil
   intro w14 h15
   refine then_at rfl ?_
   refine wp_ret ?_
   repeat first | refine then_ret ?_ | refine block_ret ?_
   exact bodyPost_ret (v := .bool (decide (a / 256 ^ j % 256 < b / 256 ^ j % 256))) (by kernel_rfl) rfl ⟨by rw [decide_eq_decide.2 (hs.2 hxy)], h15.old⟩
 ·rintro _ w16 ⟨u7, rfl, h17, hp⟩
  refine wp_seq ?_
  refine zsr ?_
  refine zwv (dnv 0) ?_
  refine zwu (run_geq0 (k := .i64) (a := -1) (b := 0) false (by decide)) ?_
  refine znt ?_
  refine zcf ?_
  refine wp_exit ?_
  repeat first | refine then_exit ?_ | refine block_exit ?_ | refine block_exit_ne (by decide) ?_
  refine then_at rfl ?_
  refine zsr ?_
  refine zwv (.bool false) ?_
  refine znt ?_
  refine wp_ret ?_
  repeat first | refine then_ret ?_ | refine block_ret ?_
  exact bodyPost_ret (v := .bool false) (by kernel_rfl) rfl ⟨by rw [decide_eq_false (rb_end hp)], h17.old⟩
theorem rless_any (a b : Nat) (hba : b ≤ a) (w : World) :
  Calls Tryz.prog 103 #[rarr a, rarr b] w fun e w' => e = .returned (rarr (a - b)) ∧ Below w.heap.size w w' := by
 have H0 := HA.start w
 go_enter Tryz.func103, Tryz.ntmps103
 refine zsr ?_
 refine wl_make H0 80 (run_box37 (c := rl a)) ?_
 intro q1 w2 h3
 refine wl_make h3 80 (run_box37 (c := rl b)) ?_
 intro q4 w5 h6
 refine wl_make h6 80 run_alloc37 ?_
 intro q7 w8 h9
 refine znt ?_
 refine zsr ?_
 refine zwv (iN .i64 0) ?_
 refine znt ?_
 refine wp_seq ?_
 refine zsr ?_
 refine zwv (iN .i64 0) ?_
 refine znt ?_
 refine wp_block ?_
 refine wp_count (fun k A w' => ∃ u10 : Nat → Value, A = ⟨(rarr a :: rarr b :: pt q1 :: pt q4 :: pt q7 :: iN .i64 (bo a b k) :: iN .i64 k :: u10 7 :: u10 8 :: u10 9 :: u10 10 :: u10 11 :: u10 12 :: u10 13 :: u10 14 :: u10 15 :: u10 16 :: u10 17 :: u10 18 :: u10 19 :: u10 20 :: u10 21 :: u10 22 :: u10 23 :: u10 24 :: u10 25 :: u10 26 :: u10 27 :: List.replicate 1 un).toArray, []⟩ ∧ HA w [(q7, 80, rl 0), (q4, 80, rl b), (q1, 80, mx (a - b) a k)] w') 36 ?_ ?_ ?_
 ·exact zex h9
 ·rintro k hk _ w11 ⟨u10, rfl, h12⟩
  have hd := Nat.mod_lt (a / 256 ^ k) (show 256 > 0 by decide)
  have he := Nat.mod_lt (b / 256 ^ k) (show 256 > 0 by decide)
  have hc := bo_le a b k
  refine wp_seq ?_
  refine zsr ?_
  refine zwv (iN .i64 k) ?_
  refine zwu (run_lss (k := .i64) (a := k) (b := 36) true (decide_eq_true hk)) ?_
  refine znt ?_
  refine zct ?_
  refine wp_skip ?_
  refine then_at rfl ?_
  refine wp_seq ?_
  refine wp_block ?_
  refine wp_seq ?_
  refine zrs ⟨(rarr a :: rarr b :: pt q1 :: pt q4 :: pt q7 :: iN .i64 (bo a b k) :: iN .i64 k :: .int .i64 ((((a / 256 ^ k % 256 : Nat) : Int) - ((b / 256 ^ k % 256 : Nat) : Int)) - ((bo a b k : Nat) : Int)) :: iN .i64 k :: .bool true :: u10 10 :: u10 11 :: iN .i64 k :: .pointer (some ⟨q1, k, none⟩) :: iN .i64 (a / 256 ^ k % 256) :: iN .i64 k :: .pointer (some ⟨q4, k, none⟩) :: iN .i64 (b / 256 ^ k % 256) :: .int .i64 (((a / 256 ^ k % 256 : Nat) : Int) - ((b / 256 ^ k % 256 : Nat) : Int)) :: iN .i64 (bo a b k) :: .int .i64 ((((a / 256 ^ k % 256 : Nat) : Int) - ((b / 256 ^ k % 256 : Nat) : Int)) - ((bo a b k : Nat) : Int)) :: u10 21 :: u10 22 :: u10 23 :: u10 24 :: u10 25 :: u10 26 :: u10 27 :: List.replicate 1 un).toArray, []⟩ (HA w [(q7, 80, rl 0), (q4, 80, rl b), (q1, 80, mx (a - b) a k)]) h12.drew ?_ ?_
  ·refine zsp (iN .i64 k) ?_
   refine zst (fun _ _ => (run_addr_arr (q := q1) (a := k) Tryz.underlying80 Tryz.sizeOf3 (by omega))) ?_
   refine zst (fun _ h => run_load1 Tryz.isAgg3 (((h.get 2 rfl).cell k).trans (mx_get (a - b) a k hk))) ?_
   refine zsp (iN .i64 k) ?_
   refine zst (fun _ _ => (run_addr_arr (q := q4) (a := k) Tryz.underlying80 Tryz.sizeOf3 (by omega))) ?_
   refine zst (fun _ h => run_load1 Tryz.isAgg3 (((h.get 1 rfl).cell k).trans (rl_get b k (by omega)))) ?_
   refine zst (fun _ _ => (run_subi (a := ((a / 256 ^ k % 256 : Nat) : Int)) (b := ((b / 256 ^ k % 256 : Nat) : Int)) (by kernel_rfl) (by kernel_rfl) (by omega) (by omega))) ?_
   refine zsp (iN .i64 (bo a b k)) ?_
   refine zst (fun _ _ => (run_subi (a := (((a / 256 ^ k % 256 : Nat) : Int) - ((b / 256 ^ k % 256 : Nat) : Int))) (b := ((bo a b k : Nat) : Int)) (by kernel_rfl) (by kernel_rfl) (by omega) (by omega))) ?_
   refine zsp (.int .i64 ((((a / 256 ^ k % 256 : Nat) : Int) - ((b / 256 ^ k % 256 : Nat) : Int)) - ((bo a b k : Nat) : Int))) ?_
   exact AllSure.nil
  intro w13 h14
  refine then_at rfl ?_
  refine zsr ?_
  refine zwv (iN .i64 0) ?_
  refine znt ?_
  refine wp_seq ?_
  refine wp_seq ?_
  by_cases hlt : a / 256 ^ k % 256 < b / 256 ^ k % 256 + bo a b k
  ·have hb1 : bo a b (k + 1) = 1 := if_pos hlt
   refine wl_region ?_
   refine zwv (.int .i64 ((((a / 256 ^ k % 256 : Nat) : Int) - ((b / 256 ^ k % 256 : Nat) : Int)) - ((bo a b k : Nat) : Int))) ?_
   refine zwu (run_lssi (k := .i64) (a := ((((a / 256 ^ k % 256 : Nat) : Int) - ((b / 256 ^ k % 256 : Nat) : Int)) - ((bo a b k : Nat) : Int))) (b := 0) (by kernel_rfl) (by kernel_rfl) true (decide_eq_true (by omega))) ?_
   refine znt ?_
   refine zct ?_
   refine zsr ?_
   refine zwv (.int .i64 ((((a / 256 ^ k % 256 : Nat) : Int) - ((b / 256 ^ k % 256 : Nat) : Int)) - ((bo a b k : Nat) : Int))) ?_
   refine zwu (run_addi (a := ((((a / 256 ^ k % 256 : Nat) : Int) - ((b / 256 ^ k % 256 : Nat) : Int)) - ((bo a b k : Nat) : Int))) (b := 256) (n := a / 256 ^ k % 256 + 256 - b / 256 ^ k % 256 - bo a b k) (by kernel_rfl) (by kernel_rfl) (by omega) (by omega)) ?_
   refine zwv (iN .i64 (a / 256 ^ k % 256 + 256 - b / 256 ^ k % 256 - bo a b k)) ?_
   refine znt ?_
   refine wl_region ?_
   refine zwv (iN .i64 1) ?_
   refine znt ?_
   refine wl_region ?_
   refine zwv (iN .i64 k) ?_
   refine zwv (iN .i64 (a / 256 ^ k % 256 + 256 - b / 256 ^ k % 256 - bo a b k)) ?_
   refine zwu (run_addr_arr (q := q1) (a := k) Tryz.underlying80 Tryz.sizeOf3 (by omega)) ?_
   refine wl_put (k := .i64) (z := ((a / 256 ^ k % 256 + 256 - b / 256 ^ k % 256 - bo a b k : Nat) : Int)) h14 2 rfl k (by rw [mx_size _ _ _ (by omega)]; exact hk) Tryz.sizeOf3 ?_
   intro w15 h16
   have h17 : HA w [(q7, 80, rl 0), (q4, 80, rl b), (q1, 80, mx (a - b) a (k + 1))] w15 := (by rw [← mx_put (a - b) a k (a / 256 ^ k % 256 + 256 - b / 256 ^ k % 256 - bo a b k) hk (mod_less 256 a b k (a / 256 ^ k % 256 + 256 - b / 256 ^ k % 256 - bo a b k) rfl hba (by omega))]; exact h16)
   clear h16
   refine wl_nil ?_
   refine block_normal ?_
   refine then_at rfl ?_
   refine wl_region ?_
   refine zwv (iN .i64 k) ?_
   refine zwu (run_add (k := .i64) (a := k) (b := 1) (by simp only [top]; omega)) ?_
   refine zwv (iN .i64 (k + 1)) ?_
   refine wl_nil ?_
   rw [hb1]
   exact then_I (zex h17)
  ·have ez : (((a / 256 ^ k % 256 : Nat) : Int) - ((b / 256 ^ k % 256 : Nat) : Int)) - ((bo a b k : Nat) : Int) = ((a / 256 ^ k % 256 - b / 256 ^ k % 256 - bo a b k : Nat) : Int) := by omega
   rw [ez]
   have hb1 : bo a b (k + 1) = 0 := if_neg hlt
   refine wl_region ?_
   refine zwv (iN .i64 (a / 256 ^ k % 256 - b / 256 ^ k % 256 - bo a b k)) ?_
   refine zwu (run_lssi (k := .i64) (a := ((a / 256 ^ k % 256 - b / 256 ^ k % 256 - bo a b k : Nat) : Int)) (b := 0) (by kernel_rfl) (by kernel_rfl) false (decide_eq_false (by omega))) ?_
   refine znt ?_
   refine zcf ?_
   refine wp_skip ?_
   refine then_at rfl ?_
   refine wl_region ?_
   refine zwv (iN .i64 k) ?_
   refine zwv (iN .i64 (a / 256 ^ k % 256 - b / 256 ^ k % 256 - bo a b k)) ?_
   refine zwu (run_addr_arr (q := q1) (a := k) Tryz.underlying80 Tryz.sizeOf3 (by omega)) ?_
   refine wl_put (k := .i64) (z := ((a / 256 ^ k % 256 - b / 256 ^ k % 256 - bo a b k : Nat) : Int)) h14 2 rfl k (by rw [mx_size _ _ _ (by omega)]; exact hk) Tryz.sizeOf3 ?_
   intro w18 h19
   have h20 : HA w [(q7, 80, rl 0), (q4, 80, rl b), (q1, 80, mx (a - b) a (k + 1))] w18 := (by rw [← mx_put (a - b) a k (a / 256 ^ k % 256 - b / 256 ^ k % 256 - bo a b k) hk (mod_less 256 a b k (a / 256 ^ k % 256 - b / 256 ^ k % 256 - bo a b k) rfl hba (by omega))]; exact h19)
   clear h19
   refine wl_nil ?_
   refine block_normal ?_
   refine zta ⟨(rarr a :: rarr b :: pt q1 :: pt q4 :: pt q7 :: iN .i64 0 :: iN .i64 k :: iN .i64 (a / 256 ^ k % 256 - b / 256 ^ k % 256 - bo a b k) :: iN .i64 k :: .bool true :: u10 10 :: u10 11 :: iN .i64 k :: .pointer (some ⟨q1, k, none⟩) :: iN .i64 (a / 256 ^ k % 256) :: iN .i64 k :: .pointer (some ⟨q4, k, none⟩) :: iN .i64 (b / 256 ^ k % 256) :: .int .i64 (((a / 256 ^ k % 256 : Nat) : Int) - ((b / 256 ^ k % 256 : Nat) : Int)) :: iN .i64 (bo a b k) :: iN .i64 (a / 256 ^ k % 256 - b / 256 ^ k % 256 - bo a b k) :: iN .i64 (a / 256 ^ k % 256 - b / 256 ^ k % 256 - bo a b k) :: .bool false :: u10 23 :: u10 24 :: iN .i64 k :: iN .i64 (a / 256 ^ k % 256 - b / 256 ^ k % 256 - bo a b k) :: .pointer (some ⟨q1, k, none⟩) :: List.replicate 1 un).toArray, []⟩ ?_
   refine wl_region ?_
   refine zwv (iN .i64 k) ?_
   refine zwu (run_add (k := .i64) (a := k) (b := 1) (by simp only [top]; omega)) ?_
   refine zwv (iN .i64 (k + 1)) ?_
   refine wl_nil ?_
   rw [hb1]
   exact then_I (zex h20)
 ·rintro _ w21 ⟨u10, rfl, h22⟩
  refine wp_seq ?_
  refine zsr ?_
  refine zwv (iN .i64 36) ?_
  refine zwu (run_lss (k := .i64) (a := 36) (b := 36) false (by decide)) ?_
  refine znt ?_
  refine zcf ?_
  refine wp_exit ?_
  repeat first | refine then_exit ?_ | refine block_exit ?_ | refine block_exit_ne (by decide) ?_
  have h23 : HA w [(q7, 80, rl 0), (q4, 80, rl b), (q1, 80, rl (a - b))] w21 := by rw [← mx_end (a - b) (a)]; exact h22
  refine then_at rfl ?_
  refine zsr ?_
  refine wl_load h23 2 rfl Tryz.underlying80 rfl (info_rl _) ?_
  refine wl_fill (c' := rl (a - b)) h23 0 rfl (rl_sz _ _) (info_rl _) (one_rl _) ?_
  intro w24 (h25 : HA w [(q7, 80, rl (a - b)), (q4, 80, rl b), (q1, 80, rl (a - b))] w24)
  refine znt ?_
  refine wp_ret ?_
  repeat first | refine then_ret ?_ | refine block_ret ?_
  exact bodyPost_ret (res_cell (p := 4) (by kernel_rfl) (by kernel_rfl) (h25.get 0 rfl) Tryz.underlying80 rfl (info_rl _)) rfl ⟨rfl, h25.old⟩
end Go.Proofs.YtefjnfeckenmkaaGreatDoor.Sc
