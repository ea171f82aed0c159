/-
  Squares and roots modulo the prime.
-/
import Derived.Test.YtpaendmdcdeemaaDoorNum2
namespace Go.Proofs.YtpaendmdcdeemaaDoor.Num

/-- 2^255 - 19 -/
def P : Nat := 57896044618658097711785492504343953926634992332820282019728792003956564819949

theorem P_eq : P = 2 ^ 255 - 19 := by decide
theorem P_big : 1 < P := by decide
theorem P_pos : 0 < P := by decide
theorem certOf : Cert P 2 [(2, 2), (3, 1), (65147, 1), (74058212732561358302231226437062788676166966415465897661863160754340907, 1)] := certP
theorem P_irr : Irr P := certOf.irr

theorem fermatP (a : Nat) (h : a % P ≠ 0) : a ^ (P - 1) % P = 1 := certOf.fermat a h

theorem mul_zero_P {a b : Nat} (h : a * b % P = 0) : a % P = 0 ∨ b % P = 0 := P_irr.mul h

/-- a number times its power of P - 2 -/
theorem invP (a : Nat) (h : a % P ≠ 0) : a * a ^ (P - 2) % P = 1 := by
  rw [Nat.mul_comm, ← Nat.pow_succ, show (P - 2).succ = P - 1 by decide]
  exact fermatP a h

/-- two whose difference times sum is nothing -/
theorem square_eq {b c : Nat} (hb : b < P) (hc : c < P) (h : b * b % P = c * c % P) : b = c ∨ b + c = P ∨ (b = 0 ∧ c = 0) := by
  rcases Nat.le_total c b with hle | hle
  · have e : (b - c) * (b + c) % P = 0 := by
      have e1 : (b - c) * (b + c) + c * c = b * b := by
        obtain ⟨d, rfl⟩ : ∃ d, b = c + d := ⟨b - c, by omega⟩
        rw [Nat.add_sub_cancel_left]
        rw [Nat.mul_add, Nat.mul_add, Nat.add_mul, Nat.mul_add, Nat.mul_add, Nat.mul_comm d c]
        omega
      have e2 : ((b - c) * (b + c) + c * c) % P = c * c % P := by rw [e1, h]
      have e3 := Nat.sub_mod_eq_zero_of_mod_eq e2
      rwa [Nat.add_sub_cancel] at e3
    rcases mul_zero_P e with h1 | h1
    · left
      rw [Nat.mod_eq_of_lt (by omega)] at h1
      omega
    · by_cases hs : b + c < P
      · rw [Nat.mod_eq_of_lt hs] at h1
        exact .inr (.inr ⟨by omega, by omega⟩)
      · rw [Nat.mod_eq_sub_mod (by omega), Nat.mod_eq_of_lt (by omega)] at h1
        exact .inr (.inl (by omega))
  · have e : (c - b) * (c + b) % P = 0 := by
      have e1 : (c - b) * (c + b) + b * b = c * c := by
        obtain ⟨d, rfl⟩ : ∃ d, c = b + d := ⟨c - b, by omega⟩
        rw [Nat.add_sub_cancel_left]
        rw [Nat.mul_add, Nat.mul_add, Nat.add_mul, Nat.mul_add, Nat.mul_add, Nat.mul_comm d b]
        omega
      have e2 : ((c - b) * (c + b) + b * b) % P = b * b % P := by rw [e1, h]
      have e3 := Nat.sub_mod_eq_zero_of_mod_eq e2
      rwa [Nat.add_sub_cancel] at e3
    rcases mul_zero_P e with h1 | h1
    · left
      rw [Nat.mod_eq_of_lt (by omega)] at h1
      omega
    · by_cases hs : c + b < P
      · rw [Nat.mod_eq_of_lt hs] at h1
        exact .inr (.inr ⟨by omega, by omega⟩)
      · rw [Nat.mod_eq_sub_mod (by omega), Nat.mod_eq_of_lt (by omega)] at h1
        exact .inr (.inl (by omega))

/-- what has the square 1 -/
theorem square_one {t : Nat} (ht : t < P) (h : t * t % P = 1) : t = 1 ∨ t = P - 1 := by
  have h1 : t * t % P = 1 * 1 % P := by rw [h]; decide
  rcases square_eq ht P_big h1 with e | e | e
  · exact .inl e
  · right; omega
  · omega

/-- half of the way round -/
def half : Nat := 28948022309329048855892746252171976963317496166410141009864396001978282409974
def quarter : Nat := 14474011154664524427946373126085988481658748083205070504932198000989141204987
/-- (P + 3) / 8 -/
def eighth : Nat := 7237005577332262213973186563042994240829374041602535252466099000494570602494

theorem half_two : half * 2 = P - 1 := by decide
theorem quarter_two : quarter * 2 = half := by decide
theorem eighth_two : eighth * 2 = quarter + 1 := by decide

theorem pow_half_sq (a : Nat) (h : a % P ≠ 0) : a ^ half % P = 1 ∨ a ^ half % P = P - 1 := by
  refine square_one (Nat.mod_lt _ P_pos) ?_
  rw [← Nat.mul_mod, ← Nat.pow_two, ← Nat.pow_mul, half_two]
  exact fermatP a h

theorem two_half (t : Nat) (ht : t = 2) : t ^ half % P = P - 1 := (pm_eq P 256 t half (by decide)).symm.trans (by rw [ht]; decide +kernel)

/-- the root of the opposite of 1: 2 to the quarter -/
def rootI : Nat := 19681161376707505956807079304988542015446066515923890162744021073123829784752
theorem rootI_eq (t : Nat) (ht : t = 2) : t ^ quarter % P = rootI := (pm_eq P 256 t quarter (by decide)).symm.trans (by rw [ht]; decide +kernel)
theorem rootI_sq : rootI * rootI % P = P - 1 := by decide +kernel

/-- is it a square? -/
def Sq (a : Nat) : Prop := ∃ b, b * b % P = a % P

theorem Sq.pow {a : Nat} (h : Sq a) (ha : a % P ≠ 0) : a ^ half % P = 1 := by
  obtain ⟨b, hb⟩ := h
  have hb0 : b % P ≠ 0 := fun e => by
    rw [Nat.mul_mod, e] at hb
    simp at hb
    exact ha hb.symm
  rw [← pow_mod_eq hb half, ← Nat.pow_two, ← Nat.pow_mul, Nat.mul_comm, half_two]
  exact fermatP b hb0

/-- the first root that is tried -/
def try0 (a : Nat) : Nat := a ^ eighth % P
def try1 (a : Nat) : Nat := try0 a * rootI % P

theorem try0_sq (a : Nat) : try0 a * try0 a % P = a * (a ^ quarter % P) % P := by
  unfold try0
  rw [← Nat.mul_mod, ← Nat.pow_two, ← Nat.pow_mul, eighth_two, Nat.pow_succ, Nat.mul_comm, Nat.mul_mod, Nat.mul_mod a (_ % P), Nat.mod_mod]

theorem try1_sq (a : Nat) : try1 a * try1 a % P = (try0 a * try0 a % P) * (P - 1) % P := by
  unfold try1
  rw [← Nat.mul_mod]
  have e : try0 a * rootI * (try0 a * rootI) = (try0 a * try0 a) * (rootI * rootI) := by
    rw [Nat.mul_assoc, Nat.mul_left_comm rootI, ← Nat.mul_assoc]
  rw [e, Nat.mul_mod, rootI_sq]

theorem neg_neg_mul (a : Nat) : a * (P - 1) % P * (P - 1) % P = a % P := by
  have e : (P - 1) * (P - 1) % P = 1 := by decide
  rw [Nat.mul_mod, Nat.mod_mod, ← Nat.mul_mod, Nat.mul_assoc, Nat.mul_mod, e, Nat.mul_one, Nat.mod_mod]

/-- a number with half power 1 has one of both for its root -/
theorem root_of {a : Nat} (ha : a ^ half % P = 1) : try0 a * try0 a % P = a % P ∨ try1 a * try1 a % P = a % P := by
  have ht : (a ^ quarter % P) * (a ^ quarter % P) % P = 1 := by
    rw [← Nat.mul_mod, ← Nat.pow_two, ← Nat.pow_mul, quarter_two]
    exact ha
  rcases square_one (Nat.mod_lt _ P_pos) ht with h | h
  · left
    rw [try0_sq, h, Nat.mul_one]
  · right
    rw [try1_sq, try0_sq, h, neg_neg_mul]

theorem sq_iff {a : Nat} (ha : a % P ≠ 0) : Sq a ↔ a ^ half % P = 1 := by
  refine ⟨fun h => h.pow ha, fun h => ?_⟩
  rcases root_of h with e | e
  · exact ⟨_, e⟩
  · exact ⟨_, e⟩

/-- either it is a square, or twice it is -/
theorem sq_twice {a : Nat} (ha : a % P ≠ 0) : Sq (a + a) ↔ ¬ Sq a := by
  have h2 : (2 * a) % P ≠ 0 := fun h => by
    rcases mul_zero_P h with e | e
    · exact absurd e (by decide)
    · exact ha e
  have e2 : a + a = 2 * a := by omega
  rw [e2, sq_iff ha, sq_iff h2]
  obtain ⟨t, ht⟩ : ∃ t, t = 2 := ⟨2, rfl⟩
  rw [← ht, Nat.mul_pow, Nat.mul_mod, two_half t ht]
  rcases pow_half_sq a ha with h | h
  · rw [h]
    exact ⟨fun e => absurd e (by decide), fun e => absurd rfl e⟩
  · rw [h]
    exact ⟨fun _ => by decide, fun _ => by decide⟩

/-- a product is a square just if both are, or neither -/
theorem sq_mul {a b : Nat} (ha : a % P ≠ 0) (hb : b % P ≠ 0) : Sq (a * b) ↔ (Sq a ↔ Sq b) := by
  have hab : a * b % P ≠ 0 := fun h => by
    rcases mul_zero_P h with e | e
    · exact ha e
    · exact hb e
  rw [sq_iff ha, sq_iff hb, sq_iff hab, Nat.mul_pow, Nat.mul_mod]
  rcases pow_half_sq a ha with h | h <;> rcases pow_half_sq b hb with h' | h' <;> rw [h, h'] <;> decide

/-- the two that are tried find a root, if there is one -/
theorem sq_try (a : Nat) : Sq a ↔ (try0 a * try0 a % P = a % P ∨ try1 a * try1 a % P = a % P) := by
  by_cases ha : a % P = 0
  · refine ⟨fun _ => .inl ?_, fun _ => ⟨0, by rw [ha]; decide⟩⟩
    rw [try0_sq, Nat.mul_mod, ha, Nat.zero_mul, Nat.zero_mod]
  · refine ⟨fun h => root_of (h.pow ha), fun h => ?_⟩
    rcases h with e | e
    · exact ⟨_, e⟩
    · exact ⟨_, e⟩
end Go.Proofs.YtpaendmdcdeemaaDoor.Num

