/-
  The field's laws over numbers.
-/
import Derived.Test.YtpaendmdcdeemaaDoorFld
namespace Go.Proofs.YtpaendmdcdeemaaDoor.Num

theorem mulP_comm (a b : Nat) : mulP a b = mulP b a := by unfold mulP; rw [Nat.mul_comm]
theorem negP_of (a : Nat) (ha : a < P) : negP a = if a = 0 then 0 else P - a := by
  unfold negP
  split
  · rename_i h; rw [h, Nat.sub_zero, Nat.mod_self]
  · exact Nat.mod_eq_of_lt (by omega)
theorem negP_sub (a : Nat) : subP 0 a = negP a := by
  unfold subP negP
  rw [Nat.zero_add]

theorem invE_pm (a : Nat) : invE a = pm P 256 a (P - 2) := (pm_eq P 256 a (P - 2) (by decide)).symm
theorem mulP_zero (b : Nat) : mulP 0 b = 0 := by unfold mulP; rw [Nat.zero_mul, Nat.zero_mod]
theorem mulP_inv (a : Nat) (ha : a < P) (h : a ≠ 0) : mulP a (invE a) = 1 := by
  unfold mulP invE
  rw [Nat.mul_mod_mod]
  exact invP a (by rw [Nat.mod_eq_of_lt ha]; exact h)
theorem mulP_nil (a b : Nat) (ha : a < P) (hb : b < P) : mulP a b = 0 ↔ a = 0 ∨ b = 0 := by
  refine ⟨fun h => ?_, fun h => ?_⟩
  · have := mul_zero_P h
    rw [Nat.mod_eq_of_lt ha, Nat.mod_eq_of_lt hb] at this
    exact this
  · rcases h with rfl | rfl
    · exact mulP_zero b
    · rw [mulP_comm]; exact mulP_zero a
theorem neg_sq (b : Nat) (hb : b < P) : negP b * negP b % P = b * b % P := by
  rw [negP_of b hb]
  split
  · rename_i h; rw [h]
  · obtain ⟨c, hc⟩ : ∃ c, P = b + c := ⟨P - b, by omega⟩
    rw [show P - b = c by omega]
    have e : c * c + P * b = b * b + P * c := by
      rw [hc, Nat.add_mul, Nat.add_mul, Nat.mul_comm c b]; omega
    have e2 := congrArg (· % P) e
    simp only [Nat.add_mul_mod_self_left] at e2
    exact e2
theorem P_odd : P % 2 = 1 := by decide

theorem root_is {a s : Nat} (h : rootP a = some s) : mulP s s = a ∧ s % 2 = 0 ∧ s < P := by
  refine ⟨?_, ?_, rootP_lt h⟩
  · unfold rootP at h
    split at h
    · rename_i hb
      have e := Option.some.inj h
      rw [← e]
      unfold mulP
      split
      · rw [neg_sq _ (rootB_lt a)]; exact hb
      · exact hb
    · cases h
  · unfold rootP at h
    split at h
    · have e := Option.some.inj h
      rw [← e]
      have hl := rootB_lt a
      split
      · rename_i ho
        have := P_odd
        rw [negP_of _ hl, if_neg (by omega)]
        omega
      · omega
    · cases h

/-! closed -/
theorem try0_pm (a : Nat) : try0 a = pm P 256 a eighth := (pm_eq P 256 a eighth (by decide)).symm
theorem rootP_of (a : Nat) : rootP a = (let t := pm P 256 a eighth; let b := if t * t % P = a then t else t * rootI % P; if b * b % P = a then some (if b % 2 = 1 then (P - b) % P else b) else none) := by
  unfold rootP rootB try1 negP
  rw [try0_pm]
end Go.Proofs.YtpaendmdcdeemaaDoor.Num
