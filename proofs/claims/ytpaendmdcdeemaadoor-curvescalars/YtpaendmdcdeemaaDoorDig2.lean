/-
  Sums, differences and products, digit by digit.
-/
import Derived.Test.YtpaendmdcdeemaaDoorDig
namespace Go.Proofs.YtpaendmdcdeemaaDoor.Num

/-- one digit is laid anew -/
theorem digs_set (B k n m i x : Nat) (hn : n < B ^ k) (hi : i < k) (hx : x < B) (e : m + n / B ^ i % B * B ^ i = n + x * B ^ i) : (digs B k n).set i x = digs B k m := by
  have hB : 0 < B := by omega
  have hl : i < (digs B k n).length := by rw [digs_length]; exact hi
  have h1 := num_set B (digs B k n) i x hl
  rw [digs_get, num_digs, Nat.mod_eq_of_lt hn, ← e] at h1
  have h2 : num B ((digs B k n).set i x) = m := Nat.add_right_cancel h1
  rw [← h2, digs_num]
  · intro y hy
    rcases List.mem_or_eq_of_mem_set hy with hy | rfl
    · exact digs_lt B hB _ _ y hy
    · exact hx
  · rw [List.length_set, digs_length]

/-- a digit above all others is laid -/
theorem digs_push (B k n i x : Nat) (hn : n < B ^ i) (hi : i < k) (hx : x < B) : (digs B k n).set i x = digs B k (n + x * B ^ i) := by
  have hB : 0 < B := by omega
  refine digs_set B k n _ i x (Nat.lt_of_lt_of_le hn (Nat.pow_le_pow_right hB (by omega))) hi hx ?_
  rw [Nat.div_eq_of_lt hn, Nat.zero_mod, Nat.zero_mul, Nat.add_zero]

theorem pow_split (B i : Nat) : B ^ (i + 1) = B * B ^ i := by rw [Nat.pow_succ, Nat.mul_comm]

/-- what is left and what is carried, a digit further -/
theorem carry_step (B s t i d : Nat) (hB : 0 < B) (e : t = s + d * B ^ i) :
    t % B ^ (i + 1) = s % B ^ i + (d + s / B ^ i) % B * B ^ i ∧ t / B ^ (i + 1) = (d + s / B ^ i) / B := by
  have hp : 0 < B ^ i := Nat.pow_pos hB
  have e1 : t / B ^ i = d + s / B ^ i := by rw [e, Nat.add_mul_div_right _ _ hp, Nat.add_comm]
  have e2 : t % B ^ i = s % B ^ i := by rw [e, Nat.add_mul_mod_self_right]
  refine ⟨?_, ?_⟩
  · rw [mod_step, e1, e2]
  · rw [Nat.pow_succ, ← Nat.div_div_eq_div_mul, e1]

/-- a sum's next digit and carry -/
theorem add_step (B a b i : Nat) (hB : 0 < B) :
    (a % B ^ (i + 1) + b % B ^ (i + 1)) % B ^ (i + 1) = (a % B ^ i + b % B ^ i) % B ^ i + (a / B ^ i % B + b / B ^ i % B + (a % B ^ i + b % B ^ i) / B ^ i) % B * B ^ i ∧
    (a % B ^ (i + 1) + b % B ^ (i + 1)) / B ^ (i + 1) = (a / B ^ i % B + b / B ^ i % B + (a % B ^ i + b % B ^ i) / B ^ i) / B :=
  carry_step B _ _ i _ hB (by rw [mod_step, mod_step, Nat.add_mul]; omega)

/-- the borrow behind so many digits -/
def bor (B a b i : Nat) : Nat := if a % B ^ i < b % B ^ i then 1 else 0

/-- a difference's next digit and borrow -/
theorem sub_step (B a b i : Nat) (hB : 0 < B) :
    (a % B ^ (i + 1) + B ^ (i + 1) - b % B ^ (i + 1)) % B ^ (i + 1) = (a % B ^ i + B ^ i - b % B ^ i) % B ^ i + (a / B ^ i % B + B - b / B ^ i % B - bor B a b i) % B * B ^ i ∧
    bor B a b (i + 1) = if a / B ^ i % B < b / B ^ i % B + bor B a b i then 1 else 0 := by
  unfold bor
  have hp : 0 < B ^ i := Nat.pow_pos hB
  rw [mod_step B a, mod_step B b, pow_split]
  have ha := Nat.mod_lt a hp
  have hb := Nat.mod_lt b hp
  have hx := Nat.mod_lt (a / B ^ i) hB
  have hy := Nat.mod_lt (b / B ^ i) hB
  generalize a % B ^ i = r at *
  generalize b % B ^ i = s at *
  generalize a / B ^ i % B = x at *
  generalize b / B ^ i % B = y at *
  generalize B ^ i = M at *
  have key : ∀ u v : Nat, u < v → u * M + M ≤ v * M := fun u v h => by
    have := Nat.mul_le_mul_right M (show u + 1 ≤ v from h)
    rwa [Nat.succ_mul] at this
  have full : ∀ q : Nat, q < M → ∀ z, z < B → (q + z * M) % (B * M) = q + z * M := fun q hq z hz => by
    refine Nat.mod_eq_of_lt ?_
    have := key z B hz
    omega
  have over : ∀ q : Nat, q < M → ∀ z, z < B → (q + z * M + B * M) % (B * M) = q + z * M := fun q hq z hz => by
    rw [Nat.add_mod_right, full q hq z hz]
  constructor
  · by_cases h : r < s
    · rw [if_pos h, Nat.mod_eq_of_lt (show r + M - s < M by omega)]
      by_cases h2 : x < y + 1
      · rw [Nat.mod_eq_of_lt (show x + B - y - 1 < B by omega)]
        have e : r + x * M + B * M - (s + y * M) = (r + M - s) + (x + B - y - 1) * M := by
          obtain ⟨t, ht⟩ : ∃ t, x + B = y + 1 + t := ⟨x + B - y - 1, by omega⟩
          have e2 : x * M + B * M = y * M + M + t * M := by rw [← Nat.add_mul, ht, Nat.add_mul, Nat.add_mul, Nat.one_mul]
          rw [show x + B - y - 1 = t by omega]
          omega
        rw [e, full _ (by omega) _ (by omega)]
      · rw [Nat.mod_eq_sub_mod (show x + B - y - 1 ≥ B by omega), Nat.mod_eq_of_lt (show x + B - y - 1 - B < B by omega)]
        have e : r + x * M + B * M - (s + y * M) = (r + M - s) + (x + B - y - 1 - B) * M + B * M := by
          obtain ⟨t, ht⟩ : ∃ t, x = y + 1 + t := ⟨x - y - 1, by omega⟩
          have e2 : x * M = y * M + M + t * M := by rw [ht, Nat.add_mul, Nat.add_mul, Nat.one_mul]
          rw [show x + B - y - 1 - B = t by omega]
          omega
        rw [e, over _ (by omega) _ (by omega)]
    · rw [if_neg h, Nat.mod_eq_sub_mod (show r + M - s ≥ M by omega), Nat.mod_eq_of_lt (show r + M - s - M < M by omega), Nat.sub_zero]
      by_cases h2 : x < y
      · rw [Nat.mod_eq_of_lt (show x + B - y < B by omega)]
        have e : r + x * M + B * M - (s + y * M) = (r + M - s - M) + (x + B - y) * M := by
          obtain ⟨t, ht⟩ : ∃ t, x + B = y + t := ⟨x + B - y, by omega⟩
          have e2 : x * M + B * M = y * M + t * M := by rw [← Nat.add_mul, ht, Nat.add_mul]
          rw [show x + B - y = t by omega]
          omega
        rw [e, full _ (by omega) _ (by omega)]
      · rw [Nat.mod_eq_sub_mod (show x + B - y ≥ B by omega), Nat.mod_eq_of_lt (show x + B - y - B < B by omega)]
        have e : r + x * M + B * M - (s + y * M) = (r + M - s - M) + (x + B - y - B) * M + B * M := by
          obtain ⟨t, ht⟩ : ∃ t, x = y + t := ⟨x - y, by omega⟩
          have e2 : x * M = y * M + t * M := by rw [ht, Nat.add_mul]
          rw [show x + B - y - B = t by omega]
          omega
        rw [e, over _ (by omega) _ (by omega)]
  · rcases Nat.lt_trichotomy x y with h | h | h
    · have := key x y h
      rw [if_pos (show r + x * M < s + y * M by omega), if_pos (by omega)]
    · subst h
      by_cases h2 : r < s
      · rw [if_pos h2, if_pos (by omega), if_pos (by omega)]
      · rw [if_neg h2, if_neg (by omega), if_neg (by omega)]
    · have := key y x h
      rw [if_neg (show ¬ r + x * M < s + y * M by omega)]
      by_cases h2 : r < s
      · rw [if_pos h2, if_neg (by omega)]
      · rw [if_neg h2, if_neg (by omega)]

/-- one digit is laid anew: the number, and that it grows no longer -/
theorem put_digit (B M q low r : Nat) (hB : 0 < B) (hM : M < B ^ r) (hq : q < r) (hl : low < B) :
    ∃ M', M' + M / B ^ q % B * B ^ q = M + low * B ^ q ∧ M' < B ^ r := by
  have hp : 0 < B ^ q := Nat.pow_pos hB
  have h1 : M / B ^ q % B * B ^ q ≤ M := by
    have h2 : M / B ^ q * B ^ q ≤ M := Nat.div_mul_le_self _ _
    have h3 : M / B ^ q % B ≤ M / B ^ q := Nat.mod_le _ _
    exact Nat.le_trans (Nat.mul_le_mul_right _ h3) h2
  refine ⟨M - M / B ^ q % B * B ^ q + low * B ^ q, by omega, ?_⟩
  have e1 : M = M % B ^ q + M / B ^ q % B * B ^ q + M / B ^ (q + 1) * B ^ (q + 1) := by
    have e2 := Nat.mod_add_div M (B ^ (q + 1))
    rw [mod_step, Nat.mul_comm (B ^ (q + 1))] at e2
    omega
  have h3 : M % B ^ q < B ^ q := Nat.mod_lt _ hp
  have h4 : low * B ^ q + B ^ q ≤ B ^ (q + 1) := by
    rw [pow_split]
    have := Nat.mul_le_mul_right (B ^ q) (show low + 1 ≤ B from hl)
    rwa [Nat.succ_mul] at this
  obtain ⟨t, ht⟩ : ∃ t, r = q + 1 + t := ⟨r - q - 1, by omega⟩
  have h5 : M / B ^ (q + 1) < B ^ t := by
    rw [Nat.div_lt_iff_lt_mul (Nat.pow_pos hB), ← Nat.pow_add, Nat.add_comm t, ← ht]
    exact hM
  have h6 : M / B ^ (q + 1) * B ^ (q + 1) + B ^ (q + 1) ≤ B ^ r := by
    rw [ht, Nat.pow_add B (q + 1) t, Nat.mul_comm (B ^ (q + 1)) (B ^ t)]
    have := Nat.mul_le_mul_right (B ^ (q + 1)) (show M / B ^ (q + 1) + 1 ≤ B ^ t from h5)
    rwa [Nat.succ_mul] at this
  omega

/-- a product's inner step: M stands, c is carried, p + j is the place -/
theorem mul_step (B M c A x b j p : Nat) (hB : 0 < B) (e : M + c * B ^ (p + j) = A + x * (b % B ^ j) * B ^ p) (hM : M < B ^ (p + 4)) (hj : j < 4) (hp : p < 4) (hx : x < B) (hc : c < B) :
    ∃ M', (digs B 8 M).set (p + j) ((x * (b / B ^ j % B) + M / B ^ (p + j) % B + c) % B) = digs B 8 M' ∧
      M' + (x * (b / B ^ j % B) + M / B ^ (p + j) % B + c) / B * B ^ (p + (j + 1)) = A + x * (b % B ^ (j + 1)) * B ^ p ∧
      M' < B ^ (p + 4) ∧ (x * (b / B ^ j % B) + M / B ^ (p + j) % B + c) / B < B := by
  have hy : b / B ^ j % B < B := Nat.mod_lt _ hB
  have hd : M / B ^ (p + j) % B < B := Nat.mod_lt _ hB
  have hb := mod_step B b j
  generalize b / B ^ j % B = y at *
  have hv : x * y + M / B ^ (p + j) % B + c < B * B := by
    obtain ⟨C, rfl⟩ : ∃ C, B = C + 1 := ⟨B - 1, by omega⟩
    have := Nat.mul_le_mul (show x ≤ C by omega) (show y ≤ C by omega)
    have e1 : (C + 1) * (C + 1) = C * C + C + C + 1 := by rw [Nat.add_mul, Nat.mul_add]; omega
    omega
  obtain ⟨M', h1, h2⟩ := put_digit B M (p + j) ((x * y + M / B ^ (p + j) % B + c) % B) (p + 4) hB hM (by omega) (Nat.mod_lt _ hB)
  refine ⟨M', digs_set B 8 M M' (p + j) _ (Nat.lt_of_lt_of_le hM (Nat.pow_le_pow_right hB (by omega))) (by omega) (Nat.mod_lt _ hB) h1, ?_, h2, ?_⟩
  · have h3 := Nat.mod_add_div (x * y + M / B ^ (p + j) % B + c) B
    have e4 : ((x * y + M / B ^ (p + j) % B + c) % B + B * ((x * y + M / B ^ (p + j) % B + c) / B)) * B ^ (p + j) = (x * y + M / B ^ (p + j) % B + c) * B ^ (p + j) := by rw [h3]
    rw [Nat.add_mul, Nat.add_mul (x * y + _), Nat.add_mul (x * y)] at e4
    have e5 : B ^ (p + (j + 1)) = B * B ^ (p + j) := by rw [← Nat.add_assoc, pow_split]
    rw [e5, hb, Nat.mul_add, Nat.add_mul, ← Nat.mul_assoc x y, Nat.mul_assoc (x * y), ← Nat.pow_add, Nat.add_comm j p, ← Nat.mul_assoc (_ / B) B, Nat.mul_comm (_ / B) B]
    omega
  · rw [Nat.div_lt_iff_lt_mul hB]
    exact hv

/-- a product's outer step: the carry is laid above -/
theorem mul_row (B M c a b p : Nat) (hB : 0 < B) (hb : b < B ^ 4) (e : M + c * B ^ (p + 4) = (a % B ^ p) * b + (a / B ^ p % B) * (b % B ^ 4) * B ^ p) (hM : M < B ^ (p + 4)) (hp : p < 4) (hc : c < B) :
    (digs B 8 M).set (p + 4) c = digs B 8 (a % B ^ (p + 1) * b) ∧ a % B ^ (p + 1) * b < B ^ (p + 1 + 4) := by
  have e1 : a % B ^ (p + 1) * b = M + c * B ^ (p + 4) := by
    rw [e, mod_step, Nat.mod_eq_of_lt hb, Nat.add_mul, Nat.mul_assoc (_ % B) b, Nat.mul_comm b, Nat.mul_assoc]
  refine ⟨?_, ?_⟩
  · rw [e1]
    exact digs_push B 8 M (p + 4) c hM (by omega) hc
  · rw [Nat.pow_add B (p + 1)]
    have h1 : a % B ^ (p + 1) < B ^ (p + 1) := Nat.mod_lt _ (Nat.pow_pos hB)
    exact Nat.mul_lt_mul'' h1 hb

/-- a fold's step: v is 8 digits, 38 times what is above is added to what is below -/
theorem fold_step (B v i : Nat) (hB : 38 < B) :
    (v % B ^ (i + 1) + 38 * (v / B ^ 4 % B ^ (i + 1))) % B ^ (i + 1) = (v % B ^ i + 38 * (v / B ^ 4 % B ^ i)) % B ^ i + (v / B ^ (i + 4) % B * 38 + v / B ^ i % B + (v % B ^ i + 38 * (v / B ^ 4 % B ^ i)) / B ^ i) % B * B ^ i ∧
    (v % B ^ (i + 1) + 38 * (v / B ^ 4 % B ^ (i + 1))) / B ^ (i + 1) = (v / B ^ (i + 4) % B * 38 + v / B ^ i % B + (v % B ^ i + 38 * (v / B ^ 4 % B ^ i)) / B ^ i) / B := by
  refine carry_step B _ _ i _ (by omega) ?_
  have e1 : v / B ^ (i + 4) = v / B ^ 4 / B ^ i := by rw [Nat.div_div_eq_div_mul, ← Nat.pow_add, Nat.add_comm 4]
  rw [mod_step, mod_step B (v / B ^ 4), e1, Nat.add_mul, Nat.mul_comm _ 38, Nat.mul_add, Nat.mul_assoc 38]
  omega
end Go.Proofs.YtpaendmdcdeemaaDoor.Num
