/-
  Products of bytes, as the reference reckons them.
-/
import Derived.Test.YthljhhhjdajfhaaAd
namespace Go.Proofs.Ythljhhhjdajfhaa
open Go.RowKit

/-- twice, as the reference has it -/
def xt2 (a : UInt8) : UInt8 := if UInt8.ofNat (a.toNat / 2 ^ 7) = 1 then UInt8.ofNat (a.toNat * 2 ^ 1) ^^^ 27 else UInt8.ofNat (a.toNat * 2 ^ 1)
def prA (a : UInt8) : Nat → UInt8
  | 0 => a
  | k + 1 => xt2 (prA a k)
def prR (a b : UInt8) : Nat → UInt8
  | 0 => 0
  | k + 1 => if UInt8.ofNat (b.toNat / 2 ^ k) &&& 1 = 1 then prR a b k ^^^ prA a k else prR a b k
theorem prA_yes (a : UInt8) (k : Nat) (h : UInt8.ofNat ((prA a k).toNat / 2 ^ 7) = 1) : prA a (k + 1) = UInt8.ofNat ((prA a k).toNat * 2 ^ 1) ^^^ 27 := by rw [prA, xt2, if_pos h]
theorem prA_no (a : UInt8) (k : Nat) (h : ¬ UInt8.ofNat ((prA a k).toNat / 2 ^ 7) = 1) : prA a (k + 1) = UInt8.ofNat ((prA a k).toNat * 2 ^ 1) := by rw [prA, xt2, if_neg h]
theorem prR_yes (a b : UInt8) (k : Nat) (h : UInt8.ofNat (b.toNat / 2 ^ k) &&& 1 = 1) : prR a b (k + 1) = prR a b k ^^^ prA a k := by rw [prR, if_pos h]
theorem prR_no (a b : UInt8) (k : Nat) (h : ¬ UInt8.ofNat (b.toNat / 2 ^ k) &&& 1 = 1) : prR a b (k + 1) = prR a b k := by rw [prR, if_neg h]
def pr (a b : UInt8) : UInt8 := prR a b 8
/-! the same in numbers -/
def goN : Nat → Nat → Nat → Nat → Nat
  | 0, _, _, r => r
  | k + 1, a, b, r => goN k (Nat.xor (a * 2) ((a / 128) * 283)) (b / 2) (Nat.xor r (a * (b % 2)))
def prN (a b : Nat) : Nat := goN 8 a b 0
def pwN (x : Nat) : Nat → Nat
  | 0 => 1
  | i + 1 => prN (pwN x i) x
set_option maxRecDepth 100000 in
theorem xt2_all : ∀ n, n < 256 → (xt2 (UInt8.ofNat n)).toNat = Nat.xor ((UInt8.ofNat n).toNat * 2) (((UInt8.ofNat n).toNat / 128) * 283) := by decide +kernel
theorem xt2_nat (a : UInt8) : (xt2 a).toNat = Nat.xor (a.toNat * 2) ((a.toNat / 128) * 283) := all8 (p := fun a => (xt2 a).toNat = Nat.xor (a.toNat * 2) ((a.toNat / 128) * 283)) xt2_all a
theorem bit_nat (b : UInt8) (k : Nat) : (UInt8.ofNat (b.toNat / 2 ^ k) &&& 1).toNat = b.toNat / 2 ^ k % 2 := by
  rw [UInt8.toNat_and, UInt8.toNat_ofNat', show (1 : UInt8).toNat = 1 from rfl, Nat.and_one_is_mod]
  have := b.toNat_lt
  rw [Nat.mod_eq_of_lt (Nat.lt_of_le_of_lt (Nat.div_le_self _ _) this)]
theorem prR_nat (a b : UInt8) (k : Nat) : (prR a b (k + 1)).toNat = Nat.xor (prR a b k).toNat ((prA a k).toNat * (b.toNat / 2 ^ k % 2)) := by
  have hb := bit_nat b k
  by_cases h : UInt8.ofNat (b.toNat / 2 ^ k) &&& 1 = 1
  · rw [h] at hb
    rw [prR_yes a b k h, ← hb, show (1 : UInt8).toNat = 1 from rfl, Nat.mul_one, UInt8.toNat_xor]
    rfl
  · have h0 : b.toNat / 2 ^ k % 2 = 0 := by
      rcases Nat.mod_two_eq_zero_or_one (b.toNat / 2 ^ k) with e | e
      · exact e
      · exact absurd (UInt8.toNat_inj.1 (by rw [hb, e]; rfl)) h
    rw [prR_no a b k h, h0, Nat.mul_zero]
    exact (Nat.xor_zero _).symm
theorem goN_pr (a b : UInt8) : ∀ k j, goN k (prA a j).toNat (b.toNat / 2 ^ j) (prR a b j).toNat = (prR a b (j + k)).toNat
  | 0, _ => rfl
  | k + 1, j => by
    rw [goN, ← prR_nat a b j, ← xt2_nat (prA a j), show b.toNat / 2 ^ j / 2 = b.toNat / 2 ^ (j + 1) by rw [Nat.div_div_eq_div_mul, Nat.pow_succ]]
    have := goN_pr a b k (j + 1)
    rw [show j + (k + 1) = j + 1 + k by omega]
    exact this
theorem pr_nat (a b : UInt8) : (pr a b).toNat = prN a.toNat b.toNat := by
  have := goN_pr a b 8 0
  rw [Nat.pow_zero, Nat.div_one] at this
  exact this.symm
set_option maxRecDepth 100000 in
theorem pr2_all : ∀ n, n < 256 → prN n 2 = (xt (UInt8.ofNat n)).toNat := by decide +kernel
set_option maxRecDepth 100000 in
theorem pr3_all : ∀ n, n < 256 → prN n 3 = (xt (UInt8.ofNat n) ^^^ UInt8.ofNat n).toNat := by decide +kernel
theorem pr_two (a : UInt8) : pr a 2 = xt a := UInt8.toNat_inj.1 (by
  rw [pr_nat]
  have := pr2_all a.toNat a.toNat_lt
  rwa [UInt8.ofNat_toNat] at this)
theorem pr_three (a : UInt8) : pr a 3 = xt a ^^^ a := UInt8.toNat_inj.1 (by
  rw [pr_nat]
  have := pr3_all a.toNat a.toNat_lt
  rwa [UInt8.ofNat_toNat] at this)
/-- powers -/
def pw (x : UInt8) : Nat → UInt8
  | 0 => 1
  | i + 1 => pr (pw x i) x
theorem pw_nat (x : UInt8) : ∀ i, (pw x i).toNat = pwN x.toNat i
  | 0 => rfl
  | i + 1 => by rw [pw, pr_nat, pw_nat x i, pwN]
/-- bits of the box -/
def bitP (b : UInt8) (i : Nat) : UInt8 := UInt8.ofNat (b.toNat / 2 ^ i) ^^^ UInt8.ofNat (b.toNat / 2 ^ ((i + 4) % 8)) ^^^ UInt8.ofNat (b.toNat / 2 ^ ((i + 5) % 8)) ^^^ UInt8.ofNat (b.toNat / 2 ^ ((i + 6) % 8)) ^^^ UInt8.ofNat (b.toNat / 2 ^ ((i + 7) % 8)) ^^^ UInt8.ofNat ((99 : UInt8).toNat / 2 ^ i)
def vb (b : UInt8) : Nat → UInt8
  | 0 => 0
  | i + 1 => vb b i ||| UInt8.ofNat ((bitP b i &&& 1).toNat * 2 ^ i)
def boxP (x : UInt8) : UInt8 := vb (pw x 254) 8
def bxs : Nat → List UInt8
  | 0 => []
  | k + 1 => bxs k ++ [boxP (UInt8.ofNat k)]
theorem bxs_len : ∀ k, (bxs k).length = k
  | 0 => rfl
  | k + 1 => by rw [bxs, List.length_append, bxs_len k]; rfl
end Go.Proofs.Ythljhhhjdajfhaa
