/-
  The field's functions over numbers.
-/
import Derived.Test.YtpaendmdcdeemaaDoorNum3
import Derived.Test.YtpaendmdcdeemaaDoorDig2
namespace Go.Proofs.YtpaendmdcdeemaaDoor.Num

/-- 2^64 -/
abbrev K : Nat := 18446744073709551616
theorem K4 : K ^ 4 = 115792089237316195423570985008687907853269984665640564039457584007913129639936 := by decide
theorem P_two : P + P < K ^ 4 := by decide
theorem P_lt : P < K ^ 4 := by decide

def addP (a b : Nat) : Nat := (a + b) % P
def subP (a b : Nat) : Nat := (a + P - b) % P
def mulP (a b : Nat) : Nat := a * b % P
def negP (a : Nat) : Nat := (P - a) % P
def invE (a : Nat) : Nat := a ^ (P - 2) % P
/-- the root that is tried last -/
def rootB (a : Nat) : Nat := if try0 a * try0 a % P = a then try0 a else try1 a
def rootP (a : Nat) : Option Nat := if rootB a * rootB a % P = a then some (if rootB a % 2 = 1 then negP (rootB a) else rootB a) else none

theorem addP_lt (a b : Nat) : addP a b < P := Nat.mod_lt _ P_pos
theorem subP_lt (a b : Nat) : subP a b < P := Nat.mod_lt _ P_pos
theorem mulP_lt (a b : Nat) : mulP a b < P := Nat.mod_lt _ P_pos
theorem negP_lt (a : Nat) : negP a < P := Nat.mod_lt _ P_pos
theorem invE_lt (a : Nat) : invE a < P := Nat.mod_lt _ P_pos
theorem try0_lt (a : Nat) : try0 a < P := Nat.mod_lt _ P_pos
theorem try1_lt (a : Nat) : try1 a < P := Nat.mod_lt _ P_pos
theorem rootB_lt (a : Nat) : rootB a < P := by
  unfold rootB
  split
  · exact try0_lt a
  · exact try1_lt a
theorem rootP_lt {a b : Nat} (h : rootP a = some b) : b < P := by
  unfold rootP at h
  split at h
  · have e := Option.some.inj h
    rw [← e]
    split
    · exact negP_lt _
    · exact rootB_lt a
  · cases h

theorem K4_mod : K ^ 4 % P = 38 := by decide

/-- the fold: what it leaves is below twice P, and the same modulo P -/
theorem fold_end (v S : Nat) (hv : v < P * P) (hS : S = v % K ^ 4 + 38 * (v / K ^ 4 % K ^ 4)) :
    S % 2 ^ 255 + 19 * (S / 2 ^ 255) < P + P ∧ (S % 2 ^ 255 + 19 * (S / 2 ^ 255)) % P = v % P ∧ S / K ^ 4 ≤ 38 := by
  have h1 : v / K ^ 4 < K ^ 4 := by
    rw [Nat.div_lt_iff_lt_mul (by decide)]
    exact Nat.lt_trans hv (by decide)
  rw [Nat.mod_eq_of_lt h1] at hS
  have h2 := Nat.mod_add_div v (K ^ 4)
  have h3 : v % K ^ 4 < K ^ 4 := Nat.mod_lt _ (by decide)
  have hq : v / K ^ 4 < P := by
    rw [Nat.div_lt_iff_lt_mul (by decide)]
    exact Nat.lt_of_lt_of_le hv (Nat.mul_le_mul_left _ (Nat.le_of_lt P_lt))
  have eP : P = 57896044618658097711785492504343953926634992332820282019728792003956564819949 := rfl
  have e255 : 2 ^ 255 = 57896044618658097711785492504343953926634992332820282019728792003956564819968 := by decide
  rw [K4] at *
  rw [e255]
  generalize v / 115792089237316195423570985008687907853269984665640564039457584007913129639936 = q at *
  generalize v % 115792089237316195423570985008687907853269984665640564039457584007913129639936 = r at *
  refine ⟨by omega, ?_, by omega⟩
  have e1 : S % 57896044618658097711785492504343953926634992332820282019728792003956564819968 + 19 * (S / 57896044618658097711785492504343953926634992332820282019728792003956564819968) + P * (S / 57896044618658097711785492504343953926634992332820282019728792003956564819968) = S := by
    rw [eP]; omega
  have e2 : S + P * (2 * q) = v := by rw [eP]; omega
  have e3 : (S % 57896044618658097711785492504343953926634992332820282019728792003956564819968 + 19 * (S / 57896044618658097711785492504343953926634992332820282019728792003956564819968) + P * (S / 57896044618658097711785492504343953926634992332820282019728792003956564819968)) % P = v % P := by
    rw [e1, ← e2, Nat.add_mul_mod_self_left]
  rwa [Nat.add_mul_mod_self_left] at e3

/-- the least, of a number below twice P -/
theorem least_of (v : Nat) (hv : v < P + P) : v % P = if v < P then v else v - P := by
  split
  · rename_i h; exact Nat.mod_eq_of_lt h
  · rename_i h
    rw [Nat.mod_eq_sub_mod (by omega), Nat.mod_eq_of_lt (by omega)]

theorem subP_of (a b : Nat) (ha : a < P) (hb : b < P) : subP a b = if a < b then a + P - b else a - b := by
  unfold subP
  split
  · exact Nat.mod_eq_of_lt (by omega)
  · rw [Nat.mod_eq_sub_mod (by omega), Nat.mod_eq_of_lt (by omega)]; omega

/-- a power, a bit further -/
theorem pow_bit (a e t : Nat) : a ^ (e % 2 ^ (t + 1)) % P = if e / 2 ^ t % 2 = 1 then a ^ (e % 2 ^ t) % P * (a ^ (2 ^ t) % P) % P else a ^ (e % 2 ^ t) % P := by
  rw [mod_step 2 e t]
  split
  · rename_i h
    rw [h, Nat.one_mul, Nat.pow_add, Nat.mul_mod]
  · rename_i h
    have : e / 2 ^ t % 2 = 0 := by omega
    rw [this, Nat.zero_mul, Nat.add_zero]

theorem pow_sq (a t : Nat) : a ^ (2 ^ (t + 1)) % P = a ^ (2 ^ t) % P * (a ^ (2 ^ t) % P) % P := by
  rw [← Nat.mul_mod, ← Nat.pow_two, ← Nat.pow_mul, Nat.pow_succ]

end Go.Proofs.YtpaendmdcdeemaaDoor.Num
