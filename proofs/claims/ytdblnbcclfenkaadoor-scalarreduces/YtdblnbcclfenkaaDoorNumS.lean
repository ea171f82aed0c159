/-
  Numbers modulo the order: what moved answers.
-/
import Derived.Test.YtdblnbcclfenkaaDoorRef
namespace Go.Proofs.YtdblnbcclfenkaaDoor.Num

/-- the order, and what it has above 2^252 -/
def Lq : Nat := 7237005577332262213973186563042994240857116359379907606001950938285454250989
def Ext : Nat := 27742317777372353535851937790883648493
theorem Lq_eq : Lq = 2 ^ 252 + Ext := by decide
theorem Lq_pos : 0 < Lq := by decide
theorem Lq_lt : Lq < K ^ 4 := by decide
theorem Ext_lt : Ext < K ^ 4 := by decide

/-- what goes over to the next word -/
def nx (v low : Nat) : Nat → Nat
  | 0 => low
  | k + 1 => v / K ^ k % K / 2 ^ 32
/-- the words laid so far -/
def rs (v low : Nat) : Nat → Nat
  | 0 => 0
  | k + 1 => rs v low k + (v / K ^ k % K * 2 ^ 32 % 18446744073709551616 ||| nx v low k) * K ^ k
theorem nx_lt (v low k : Nat) (hl : low < 2 ^ 32) : nx v low k < 2 ^ 32 := by
  cases k with
  | zero => exact hl
  | succ k =>
    show v / K ^ k % K / 2 ^ 32 < 2 ^ 32
    have : v / K ^ k % K < 18446744073709551616 := Nat.mod_lt _ (by decide)
    omega
theorem shl_or (x y : Nat) (hy : y < 2 ^ 32) : x * 2 ^ 32 % 18446744073709551616 ||| y = x * 2 ^ 32 % 18446744073709551616 + y := by
  have e : x * 2 ^ 32 % 18446744073709551616 = 2 ^ 32 * (x % 2 ^ 32) := by omega
  rw [e, Nat.two_pow_add_eq_or_of_lt hy]
theorem or_lt (x y : Nat) (hy : y < 2 ^ 32) : (x * 2 ^ 32 % 18446744073709551616 ||| y) < K := by
  rw [shl_or x y hy]
  show _ < 18446744073709551616
  omega
theorem rs_eq (v low : Nat) (hl : low < 2 ^ 32) : ∀ k, rs v low k + nx v low k * K ^ k = v % K ^ k * 2 ^ 32 + low ∧ rs v low k < K ^ k
  | 0 => by simp [rs, nx, Nat.mod_one]
  | k + 1 => by
    obtain ⟨h1, h2⟩ := rs_eq v low hl k
    have h3 := mod_step K v k
    have hp : 0 < K ^ k := Nat.pow_pos (by decide)
    have hn := nx_lt v low k hl
    rw [h3, rs, shl_or _ _ hn]
    show _ + v / K ^ k % K / 2 ^ 32 * K ^ (k + 1) = _ ∧ _
    have hK : K ^ (k + 1) = K * K ^ k := pow_split K k
    rw [hK]
    generalize v / K ^ k % K = x at *
    generalize v % K ^ k = m at *
    generalize rs v low k = r at *
    generalize nx v low k = y at *
    have e : x * 2 ^ 32 = x * 2 ^ 32 % 18446744073709551616 + x / 2 ^ 32 * K := by show _ = _ + x / 2 ^ 32 * 18446744073709551616; omega
    have h4 : x * 2 ^ 32 % 18446744073709551616 + y + 1 ≤ K := by show _ ≤ 18446744073709551616; omega
    generalize K ^ k = p at *
    generalize x * 2 ^ 32 % 18446744073709551616 = d at *
    generalize x / 2 ^ 32 = q at *
    have e2 : x * p * 2 ^ 32 = d * p + q * (K * p) := by rw [Nat.mul_right_comm, e, Nat.add_mul, Nat.mul_assoc]
    refine ⟨?_, ?_⟩
    · rw [Nat.add_mul m, e2, Nat.add_mul]
      omega
    · skip
      have h5 := Nat.mul_le_mul_right p h4
      rw [Nat.add_mul _ 1, Nat.one_mul] at h5
      omega
theorem rs_four (v low : Nat) (hl : low < 2 ^ 32) (hv : v < K ^ 4) : rs v low 4 = (v * 2 ^ 32 + low) % K ^ 4 := by
  obtain ⟨h1, h2⟩ := rs_eq v low hl 4
  rw [Nat.mod_eq_of_lt hv] at h1
  rw [← h1, Nat.add_mul_mod_self_right, Nat.mod_eq_of_lt h2]
theorem top_word (n : Nat) (hn : n < K ^ 4) : (digs K 4 n).set 3 (n / K ^ 3 % K &&& 1152921504606846975) = digs K 4 (n % 2 ^ 252) := by
  have e : n / K ^ 3 % K &&& 1152921504606846975 = n / K ^ 3 % K % 2 ^ 60 := Nat.and_two_pow_sub_one_eq_mod _ 60
  have h3 : n / K ^ 3 < K := by rw [Nat.div_lt_iff_lt_mul (Nat.pow_pos (by decide))]; exact hn
  refine digs_set K 4 n _ 3 _ hn (by decide) ?_ ?_
  · rw [e]
    exact Nat.lt_of_lt_of_le (Nat.mod_lt _ (by decide)) (by decide)
  · rw [e, Nat.mod_eq_of_lt h3]
    have h4 := Nat.mod_add_div n (K ^ 3)
    have h5 : n % 2 ^ 252 = n % K ^ 3 + n / K ^ 3 % 2 ^ 60 * K ^ 3 := by
      have : (2 : Nat) ^ 252 = K ^ 3 * 2 ^ 60 := by decide
      rw [this, Nat.mod_mul, Nat.mul_comm (K ^ 3)]
    rw [h5]
    have h6 : n / K ^ 3 * K ^ 3 = K ^ 3 * (n / K ^ 3) := Nat.mul_comm _ _
    omega
/-- what lies above -/
theorem above_eq (v : Nat) (hv : v < Lq) : v / K ^ 3 % K / 2 ^ 28 = v / 2 ^ 220 ∧ v / 2 ^ 220 < 2 ^ 33 := by
  have h3 : v / K ^ 3 < K := by rw [Nat.div_lt_iff_lt_mul (Nat.pow_pos (by decide))]; exact Nat.lt_trans hv (by decide)
  refine ⟨?_, ?_⟩
  · rw [Nat.mod_eq_of_lt h3, Nat.div_div_eq_div_mul]
    have : K ^ 3 * 2 ^ 28 = 2 ^ 220 := by decide
    rw [this]
  · rw [Nat.div_lt_iff_lt_mul (by decide)]
    exact Nat.lt_trans hv (by decide)
/-- v times 2^32 and the bits, in two -/
theorem moved_parts (v low : Nat) (hl : low < 2 ^ 32) : v * 2 ^ 32 + low = v / 2 ^ 220 * 2 ^ 252 + (v * 2 ^ 32 + low) % 2 ^ 252 := by
  have h := Nat.mod_add_div (v * 2 ^ 32 + low) (2 ^ 252)
  have e : (v * 2 ^ 32 + low) / 2 ^ 252 = v / 2 ^ 220 := by
    have : (2 : Nat) ^ 252 = 2 ^ 32 * 2 ^ 220 := by decide
    rw [this, ← Nat.div_div_eq_div_mul]
    congr 1
    omega
  rw [e] at h
  omega
theorem mod_parts (n r o c a M : Nat) (h1 : n = c + r) (e2 : M * a = c + o) (hr : r < M) (ho : o < M) : (r < o → r + M - o = n % M) ∧ (¬ r < o → r - o = n % M) := by
  refine ⟨fun h => ?_, fun h => ?_⟩
  · have e : n + M = (r + M - o) + M * a := by omega
    rw [← Nat.add_mod_right, e, Nat.add_mul_mod_self_left, Nat.mod_eq_of_lt (by omega)]
  · have e : n = (r - o) + M * a := by omega
    rw [e, Nat.add_mul_mod_self_left, Nat.mod_eq_of_lt (by omega)]
theorem moved_eq (v low r o : Nat) (hl : low < 2 ^ 32) (hv : v < Lq) (hr : r = (v * 2 ^ 32 + low) % 2 ^ 252) (ho : o = Ext * (v / 2 ^ 220)) :
    r < Lq ∧ o < Lq ∧ (r < o → r + Lq - o = (v * 2 ^ 32 + low) % Lq) ∧ (¬ r < o → r - o = (v * 2 ^ 32 + low) % Lq) := by
  have h1 := moved_parts v low hl
  rw [← hr] at h1
  have h2 := (above_eq v hv).2
  generalize v / 2 ^ 220 = a at *
  have hr1 : r < 2 ^ 252 := by rw [hr]; exact Nat.mod_lt _ (by decide)
  have e2 : Lq * a = a * 2 ^ 252 + o := by rw [Lq_eq, ho, Nat.add_mul, Nat.mul_comm (2 ^ 252)]
  have ho1 : o < Lq := by
    have h3 := Nat.mul_le_mul_left Ext (show a ≤ 2 ^ 33 by omega)
    rw [← ho] at h3
    exact Nat.lt_of_le_of_lt h3 (by decide)
  have hr2 : r < Lq := Nat.lt_trans hr1 (by decide)
  exact ⟨hr2, ho1, mod_parts _ r o _ a Lq h1 e2 hr2 ho1⟩
end Go.Proofs.YtdblnbcclfenkaaDoor.Num
