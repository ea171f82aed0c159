/-
  The reference's numbers: 36 digits of a byte, as ints.
-/
import Derived.Test.YtdblnbcclfenkaaDoorChk
namespace Go.Proofs.YtdblnbcclfenkaaDoor
open Go.RowKit Num

def rl (n : Nat) : Array Value := cl .i64 (digs 256 36 n)
def rarr (n : Nat) : Value := .agg (rl n)
theorem rl_size (n : Nat) : (rl n).size = 36 := rfl
theorem rl_sz (n m : Nat) : (rl n).size = (rl m).size := rfl
theorem one_rl (n : Nat) : (rl n).all (·.oneCell') = true := one_cl _ _
theorem info37 : (Tryd.prog.info? 37).map (·.size) = some 36 := by kernel_rfl
theorem info_rl (n : Nat) : (Tryd.prog.info? 37).map (·.size) = some (rl n).size := info37
theorem rl_get (n j : Nat) (hj : j < 36) : (rl n)[j]? = some (iN .i64 (n / 256 ^ j % 256)) := by
  unfold rl
  rw [cl_get .i64 _ j (by rw [digs_length]; exact hj), digs_get]
  rfl
theorem rl_put (n j x : Nat) (hn : n < 256 ^ j) (hj : j < 36) (hx : x < 256) : (rl n).setIfInBounds j (.int .i64 (x : Int)) = rl (n + x * 256 ^ j) := by
  unfold rl
  rw [← digs_push 256 36 n j x hn hj hx]
  simp [cl, List.map_set]
section
variable {ρ : Operand → Value} {x y : Operand} {w : World} {dst : Option Tmp} {ty : TypeId} {pos : String} {aft : Array Edge} {gd : Option (Nat × Bool)}
theorem run_alloc37 : (execOp ρ ⟨dst, .alloc 37, ty, pos, aft, gd⟩).run Tryd.prog w = .ok (.value (.pointer (some ⟨w.heap.size, 0, none⟩))) (w.alloc (.cells (rl 0) 37)) := by
  simp only [execOp]
  go_simp
  rfl
theorem run_box37 {c : Array Value} (hx : ρ x = .agg c) : (execOp ρ ⟨dst, .box 37 x, ty, pos, aft, gd⟩).run Tryd.prog w = .ok (.value (.pointer (some ⟨w.heap.size, 0, none⟩))) (w.alloc (.cells c 37)) := by
  simp only [execOp, hx]
  go_simp
/-- a difference of ints -/
theorem run_subi {P : Program} {T T2 : TypeId} {a b : Int} (hx : ρ x = .int .i64 a) (hy : ρ y = .int .i64 b) (h0 : -1000 ≤ a - b) (h1 : a - b ≤ 1000) : (execOp ρ ⟨dst, .binOp .sub T x y T2, ty, pos, aft, gd⟩).run P w = .ok (.value (.int .i64 (a - b))) w := by
  have h : IntKind.i64.wrap (a - b) = a - b := by rw [IntKind.wrap_i64]; omega
  simp only [execOp, hx, hy]
  simpa [binOp, go_sem] using h
theorem run_addi {P : Program} {T T2 : TypeId} {a b : Int} {n : Nat} (hx : ρ x = .int .i64 a) (hy : ρ y = .int .i64 b) (h : a + b = (n : Int)) (h1 : n ≤ 1000) : (execOp ρ ⟨dst, .binOp .add T x y T2, ty, pos, aft, gd⟩).run P w = .ok (.value (iN .i64 n)) w := by
  have h : IntKind.i64.wrap (a + b) = (n : Int) := by rw [IntKind.wrap_i64]; omega
  simp only [execOp, hx, hy, iN]
  simpa [binOp, go_sem] using h
theorem run_lssi {P : Program} {T T2 : TypeId} {k : IntKind} {a b : Int} (hx : ρ x = .int k a) (hy : ρ y = .int k b) (t : Bool) (ht : decide (a < b) = t) : (execOp ρ ⟨dst, .binOp .lss T x y T2, ty, pos, aft, gd⟩).run P w = .ok (.value (.bool t)) w := by
  subst ht
  simp only [execOp, hx, hy]
  simp [binOp, go_sem]
end
/-- k digits of N are laid over those of a -/
def mx (N a k : Nat) : Array Value := cl .i64 (mix 256 k N (digs 256 36 a))
theorem mx_zero (N a : Nat) : mx N a 0 = rl a := rfl
theorem mx_size (N a k : Nat) (hk : k ≤ 36) : (mx N a k).size = 36 := by
  unfold mx
  rw [cl_size, mix_length _ _ _ _ (by rw [digs_length]; exact hk), digs_length]
theorem mx_get (N a k : Nat) (hk : k < 36) : (mx N a k)[k]? = some (iN .i64 (a / 256 ^ k % 256)) := by
  unfold mx
  rw [cl_get .i64 _ k (by rw [mix_length _ _ _ _ (by rw [digs_length]; omega), digs_length]; exact hk), mix_get _ _ _ _ (by rw [digs_length]; exact hk), digs_get]
  rfl
theorem mx_put (N a k x : Nat) (hk : k < 36) (e : N % 256 ^ (k + 1) = N % 256 ^ k + x * 256 ^ k) : (mx N a k).setIfInBounds k (.int .i64 (x : Int)) = mx N a (k + 1) := by
  have h := mix_set 256 k N N x (digs 256 36 a) (by decide) (by rw [digs_length]; exact hk) e
  unfold mx
  rw [← h]
  simp [cl, List.map_set]
theorem mx_end (N a : Nat) : mx N a 36 = rl N := by
  unfold mx mix rl
  rw [List.drop_eq_nil_of_le (by rw [digs_length]; exact Nat.le_refl _), List.append_nil]
/-- carries of a number twice -/
def cy2 (a : Nat) : Nat → Nat
  | 0 => 0
  | k + 1 => (2 * (a / 256 ^ k % 256) + cy2 a k) / 256
theorem cy2_eq (B a : Nat) : ∀ k, (hB : B = 256) → cy2 a k = 2 * (a % B ^ k) / B ^ k
  | 0, _ => by simp [cy2, Nat.mod_one]
  | k + 1, hB => by
    have h := (carry_step B (2 * (a % B ^ k)) (2 * (a % B ^ (k + 1))) k (2 * (a / B ^ k % B)) (by omega) (by rw [mod_step, Nat.mul_add, Nat.mul_assoc])).2
    rw [h, ← cy2_eq B a k hB]
    subst hB
    rfl
theorem cy2_lt (a : Nat) : ∀ k, cy2 a k < 256
  | 0 => Nat.zero_lt_succ 255
  | k + 1 => by
    have := cy2_lt a k
    show (2 * (a / 256 ^ k % 256) + cy2 a k) / 256 < 256
    omega
theorem mod_twice (B a k : Nat) (hB : B = 256) : (2 * a) % B ^ (k + 1) = (2 * a) % B ^ k + (2 * (a / B ^ k % B) + cy2 a k) % B * B ^ k := by
  have h := (carry_step B (2 * (a % B ^ k)) (2 * (a % B ^ (k + 1))) k (2 * (a / B ^ k % B)) (by omega) (by rw [mod_step, Nat.mul_add, Nat.mul_assoc])).1
  rw [Nat.mul_mod_mod, Nat.mul_mod_mod] at h
  rw [h, cy2_eq B a k hB]
/-- carries of a sum -/
def cya (a b : Nat) : Nat → Nat
  | 0 => 0
  | k + 1 => (a / 256 ^ k % 256 + b / 256 ^ k % 256 + cya a b k) / 256
theorem cya_eq (B a b : Nat) : ∀ k, (hB : B = 256) → cya a b k = (a % B ^ k + b % B ^ k) / B ^ k
  | 0, _ => by simp [cya, Nat.mod_one]
  | k + 1, hB => by
    have h := (add_step B a b k (by omega)).2
    rw [h, ← cya_eq B a b k hB]
    subst hB
    rfl
theorem cya_lt (a b : Nat) : ∀ k, cya a b k < 256
  | 0 => Nat.zero_lt_succ 255
  | k + 1 => by
    have := cya_lt a b k
    show (a / 256 ^ k % 256 + b / 256 ^ k % 256 + cya a b k) / 256 < 256
    omega
theorem mod_sum (B a b k : Nat) (hB : B = 256) : (a + b) % B ^ (k + 1) = (a + b) % B ^ k + (a / B ^ k % B + b / B ^ k % B + cya a b k) % B * B ^ k := by
  have h := (add_step B a b k (by omega)).1
  rw [← Nat.add_mod, ← Nat.add_mod] at h
  rw [h, cya_eq B a b k hB]
/-- what is lent -/
def bo (a b : Nat) : Nat → Nat
  | 0 => 0
  | k + 1 => if a / 256 ^ k % 256 < b / 256 ^ k % 256 + bo a b k then 1 else 0
theorem bo_eq (B a b : Nat) : ∀ k, (hB : B = 256) → bo a b k = bor B a b k
  | 0, _ => by unfold bor; rw [Nat.pow_zero, Nat.mod_one, Nat.mod_one]; rfl
  | k + 1, hB => by
    rw [(sub_step B a b k (by omega)).2, ← bo_eq B a b k hB]
    subst hB
    rfl
theorem bo_le (a b k : Nat) : bo a b k ≤ 1 := by
  rw [bo_eq 256 a b k rfl]
  unfold bor
  split <;> omega
theorem sub_mod (a b M : Nat) (hM : 0 < M) (h : b ≤ a) : (a - b) % M = (a % M + M - b % M) % M := by
  have h1 := Nat.mod_lt b hM
  have e : a - b + M * (b / M) = M * (a / M) + (a % M) - b % M := by
    have ha := Nat.mod_add_div a M
    have hb := Nat.mod_add_div b M
    omega
  have e2 : (a - b + M * (b / M)) % M = (a - b) % M := Nat.add_mul_mod_self_left _ _ _
  have e3 : (a - b + M * (b / M) + M) % M = (a - b) % M := by rw [Nat.add_mod_right, e2]
  have e4 : a - b + M * (b / M) + M = (a % M + M - b % M) + M * (a / M) := by
    have ha := Nat.mod_add_div a M
    have hb := Nat.mod_add_div b M
    omega
  rw [← e3, e4, Nat.add_mul_mod_self_left]
theorem mod_less (B a b k x : Nat) (hB : B = 256) (h : b ≤ a) (hx : x = (a / B ^ k % B + B - b / B ^ k % B - bo a b k) % B) : (a - b) % B ^ (k + 1) = (a - b) % B ^ k + x * B ^ k := by
  have hp : 0 < B := by omega
  rw [sub_mod a b _ (Nat.pow_pos hp) h, sub_mod a b (B ^ k) (Nat.pow_pos hp) h, (sub_step B a b k hp).1, hx, bo_eq B a b k hB]
end Go.Proofs.YtdblnbcclfenkaaDoor
