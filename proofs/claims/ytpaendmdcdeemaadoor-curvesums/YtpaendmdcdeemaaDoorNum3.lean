/-
  Squares and roots modulo the prime.
-/
import Derived.Test.YtpaendmdcdeemaaDoorNum2
namespace Go.Proofs.YtpaendmdcdeemaaDoor.Num

/-- 2^255 - 19 -/
def P : Nat := 57896044618658097711785492504343953926634992332820282019728792003956564819949

theorem P_pos : 0 < P := by decide
theorem certOf : Cert P 2 [(2, 2), (3, 1), (65147, 1), (74058212732561358302231226437062788676166966415465897661863160754340907, 1)] := certP
theorem P_irr : Irr P := certOf.irr

theorem fermatP (a : Nat) (h : a % P ≠ 0) : a ^ (P - 1) % P = 1 := certOf.fermat a h

theorem mul_zero_P {a b : Nat} (h : a * b % P = 0) : a % P = 0 ∨ b % P = 0 := P_irr.mul h

/-- a number times its power of P - 2 -/
theorem invP (a : Nat) (h : a % P ≠ 0) : a * a ^ (P - 2) % P = 1 := by
  rw [Nat.mul_comm, ← Nat.pow_succ, show (P - 2).succ = P - 1 by decide]
  exact fermatP a h

/-- half of the way round -/
def half : Nat := 28948022309329048855892746252171976963317496166410141009864396001978282409974
def quarter : Nat := 14474011154664524427946373126085988481658748083205070504932198000989141204987
/-- (P + 3) / 8 -/
def eighth : Nat := 7237005577332262213973186563042994240829374041602535252466099000494570602494

theorem half_two : half * 2 = P - 1 := by decide
/-- the root of the opposite of 1: 2 to the quarter -/
def rootI : Nat := 19681161376707505956807079304988542015446066515923890162744021073123829784752
/-- is it a square? -/
def Sq (a : Nat) : Prop := ∃ b, b * b % P = a % P

theorem Sq.pow {a : Nat} (h : Sq a) (ha : a % P ≠ 0) : a ^ half % P = 1 := by
  obtain ⟨b, hb⟩ := h
  have hb0 : b % P ≠ 0 := fun e => by
    rw [Nat.mul_mod, e] at hb
    simp at hb
    exact ha hb.symm
  rw [← pow_mod_eq hb half, ← Nat.pow_two, ← Nat.pow_mul, Nat.mul_comm, half_two]
  exact fermatP b hb0

/-- the first root that is tried -/
def try0 (a : Nat) : Nat := a ^ eighth % P
def try1 (a : Nat) : Nat := try0 a * rootI % P

end Go.Proofs.YtpaendmdcdeemaaDoor.Num

