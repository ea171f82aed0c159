/-
  Digits and bytes: what half and Unhex answer.
-/
import Derived.Test.YtdgjdfpblenogaaPutText
namespace Go.Proofs.Ytdgjdfpblenogaa
open Go.RowKit

/-- what a digit stands for -/
def dv (c : Nat) : Option Nat := if 48 ≤ c ∧ c ≤ 57 then some (c - 48) else if 97 ≤ c ∧ c ≤ 102 then some (c - 87) else none

theorem dv_lt {c x : Nat} (h : dv c = some x) : x < 16 := by
  unfold dv at h
  split at h
  · simp at h; omega
  · split at h
    · simp at h; omega
    · cases h

/-- bytes of digits -/
def unhex : List UInt8 → Option (List UInt8)
  | [] => some []
  | [_] => none
  | a :: b :: r => match dv a.toNat, dv b.toNat with
    | some x, some y => (unhex r).map (UInt8.ofNat (x * 16 + y) :: ·)
    | _, _ => none

theorem ret_tup {k : IntKind} {a b : Int} {v : Value} (h : a = b) : Ending.returned (.tuple #[.int k a, v]) = .returned (.tuple #[.int k b, v]) := by rw [h]

theorem half_yes (w : World) (c x : Nat) (hc : c < 256) (h : dv c = some x) :
    Calls Try.prog 27 #[.int .u8 c] w fun e w' => e = .returned (.tuple #[.int .u8 x, .bool true]) ∧ w' = w := by
  unfold dv at h
  by_cases h1 : 48 ≤ c ∧ c ≤ 57
  · rw [if_pos h1] at h
    obtain ⟨h2, h3⟩ := h1
    have HX : Hid (c - 48 = x) := Option.some.inj h
    clear h
    go_enter Try.func27, Try.ntmps27
    go_wp2
    go_ret2
    exact ⟨ret_tup (by rw [← HX.out]; omega), rfl⟩
  · rw [if_neg h1] at h
    by_cases h2 : 97 ≤ c ∧ c ≤ 102
    · rw [if_pos h2] at h
      obtain ⟨h3, h4⟩ := h2
      have HX : Hid (c - 87 = x) := Option.some.inj h
      clear h
      have h5 : ¬ c ≤ 57 := by omega
      clear h1
      go_enter Try.func27, Try.ntmps27
      go_wp2
      go_ret2
      exact ⟨ret_tup (by rw [← HX.out]; omega), rfl⟩
    · rw [if_neg h2] at h
      cases h

theorem half_no (w : World) (c : Nat) (hc : c < 256) (h : dv c = none) :
    Calls Try.prog 27 #[.int .u8 c] w fun e w' => e = .returned (.tuple #[.int .u8 0, .bool false]) ∧ w' = w := by
  have h1 : ¬ (48 ≤ c ∧ c ≤ 57) := by intro h1; unfold dv at h; rw [if_pos h1] at h; cases h
  have h2 : ¬ (97 ≤ c ∧ c ≤ 102) := by intro h2; unfold dv at h; rw [if_neg h1, if_pos h2] at h; cases h
  clear h
  by_cases a1 : c < 48
  · clear h1 h2
    go_enter Try.func27, Try.ntmps27
    go_wp2
    go_ret2
    exact ⟨rfl, rfl⟩
  by_cases a2 : c < 97
  · have a3 : 57 < c := by omega
    clear h1 h2
    go_enter Try.func27, Try.ntmps27
    go_wp2
    go_ret2
    exact ⟨rfl, rfl⟩
  · have a3 : 102 < c := by omega
    clear h1 h2
    go_enter Try.func27, Try.ntmps27
    go_wp2
    go_ret2
    exact ⟨rfl, rfl⟩

end Go.Proofs.Ytdgjdfpblenogaa
