/-
  The field's laws over numbers.
-/
import Derived.Test.YtpaendmdcdeemaaDoorFld
namespace Go.Proofs.YtpaendmdcdeemaaDoor.Num

theorem addP_comm (a b : Nat) : addP a b = addP b a := by unfold addP; rw [Nat.add_comm]
theorem mulP_comm (a b : Nat) : mulP a b = mulP b a := by unfold mulP; rw [Nat.mul_comm]
theorem addP_assoc (a b c : Nat) : addP (addP a b) c = addP a (addP b c) := by
  unfold addP
  rw [Nat.mod_add_mod, Nat.add_mod_mod, Nat.add_assoc]
theorem mulP_assoc (a b c : Nat) : mulP (mulP a b) c = mulP a (mulP b c) := by
  unfold mulP
  rw [Nat.mod_mul_mod, Nat.mul_mod_mod, Nat.mul_assoc]
theorem mulP_add (a b c : Nat) : mulP (addP a b) c = addP (mulP a c) (mulP b c) := by
  unfold mulP addP
  rw [Nat.mod_mul_mod, Nat.mod_add_mod, Nat.add_mod_mod, Nat.add_mul]
theorem sub_add (a b : Nat) (ha : a < P) (hb : b < P) : addP (subP a b) b = a := by
  unfold addP subP
  rw [Nat.mod_add_mod, show a + P - b + b = a + P by omega, Nat.add_mod_right, Nat.mod_eq_of_lt ha]
theorem add_neg (a : Nat) (ha : a < P) : addP a (negP a) = 0 := by
  unfold addP negP
  rw [Nat.add_mod_mod, show a + (P - a) = P by omega, Nat.mod_self]
theorem mulP_one (a : Nat) (ha : a < P) : mulP a 1 = a := by
  unfold mulP
  rw [Nat.mul_one, Nat.mod_eq_of_lt ha]
theorem sub_neg (a b : Nat) (ha : a < P) (hb : b < P) : subP a b = negP (subP b a) := by
  unfold negP
  rw [subP_of a b ha hb, subP_of b a hb ha]
  rcases Nat.lt_trichotomy a b with h | h | h
  · rw [if_pos h, if_neg (by omega), Nat.mod_eq_of_lt (by omega)]; omega
  · subst h
    rw [if_neg (Nat.lt_irrefl _), Nat.sub_self, Nat.sub_zero, Nat.mod_self]
  · rw [if_neg (by omega), if_pos h, Nat.mod_eq_of_lt (by omega)]; omega
theorem negP_of (a : Nat) (ha : a < P) : negP a = if a = 0 then 0 else P - a := by
  unfold negP
  split
  · rename_i h; rw [h, Nat.sub_zero, Nat.mod_self]
  · exact Nat.mod_eq_of_lt (by omega)
theorem negP_sub (a : Nat) : subP 0 a = negP a := by
  unfold subP negP
  rw [Nat.zero_add]

theorem invE_pm (a : Nat) : invE a = pm P 256 a (P - 2) := (pm_eq P 256 a (P - 2) (by decide)).symm
theorem invE_nil (a : Nat) (h : a = 0) : invE a = 0 := by rw [invE_pm, h]; decide +kernel
theorem invE_zero : invE 0 = 0 := invE_nil 0 rfl
theorem mulP_zero (b : Nat) : mulP 0 b = 0 := by unfold mulP; rw [Nat.zero_mul, Nat.zero_mod]
theorem mulP_inv (a : Nat) (ha : a < P) (h : a ≠ 0) : mulP a (invE a) = 1 := by
  unfold mulP invE
  rw [Nat.mul_mod_mod]
  exact invP a (by rw [Nat.mod_eq_of_lt ha]; exact h)
theorem mulP_nil (a b : Nat) (ha : a < P) (hb : b < P) : mulP a b = 0 ↔ a = 0 ∨ b = 0 := by
  refine ⟨fun h => ?_, fun h => ?_⟩
  · have := mul_zero_P h
    rw [Nat.mod_eq_of_lt ha, Nat.mod_eq_of_lt hb] at this
    exact this
  · rcases h with rfl | rfl
    · exact mulP_zero b
    · rw [mulP_comm]; exact mulP_zero a
theorem inv_ne (a : Nat) (ha : a < P) (h : a ≠ 0) : invE a ≠ 0 := fun e => by
  have := mulP_inv a ha h
  rw [e, mulP_comm, mulP_zero] at this
  cases this
theorem inv_inv (a : Nat) (ha : a < P) (h : a ≠ 0) : invE (invE a) = a := by
  have h1 := mulP_inv a ha h
  have h2 := mulP_inv (invE a) (invE_lt a) (inv_ne a ha h)
  have h3 : mulP (mulP a (invE a)) (invE (invE a)) = mulP a (mulP (invE a) (invE (invE a))) := mulP_assoc _ _ _
  rw [h1, h2, mulP_one a ha, mulP_comm, mulP_one _ (invE_lt _)] at h3
  exact h3
theorem mul_div (a b : Nat) (ha : a < P) (hb : b < P) (h : a ≠ 0) : mulP (mulP a b) (invE a) = b := by
  rw [mulP_comm a b, mulP_assoc, mulP_inv a ha h, mulP_one b hb]

theorem neg_sq (b : Nat) (hb : b < P) : negP b * negP b % P = b * b % P := by
  rw [negP_of b hb]
  split
  · rename_i h; rw [h]
  · obtain ⟨c, hc⟩ : ∃ c, P = b + c := ⟨P - b, by omega⟩
    rw [show P - b = c by omega]
    have e : c * c + P * b = b * b + P * c := by
      rw [hc, Nat.add_mul, Nat.add_mul, Nat.mul_comm c b]; omega
    have e2 := congrArg (· % P) e
    simp only [Nat.add_mul_mod_self_left] at e2
    exact e2
theorem P_odd : P % 2 = 1 := by decide

theorem root_is {a s : Nat} (h : rootP a = some s) : mulP s s = a ∧ s % 2 = 0 ∧ s < P := by
  refine ⟨?_, ?_, rootP_lt h⟩
  · unfold rootP at h
    split at h
    · rename_i hb
      have e := Option.some.inj h
      rw [← e]
      unfold mulP
      split
      · rw [neg_sq _ (rootB_lt a)]; exact hb
      · exact hb
    · cases h
  · unfold rootP at h
    split at h
    · have e := Option.some.inj h
      rw [← e]
      have hl := rootB_lt a
      split
      · rename_i ho
        have := P_odd
        rw [negP_of _ hl, if_neg (by omega)]
        omega
      · omega
    · cases h

theorem root_iff {a : Nat} (ha : a < P) : (∃ s, rootP a = some s) ↔ Sq a := by
  rw [sq_try, Nat.mod_eq_of_lt ha]
  unfold rootP rootB
  refine ⟨fun ⟨s, h⟩ => ?_, fun h => ?_⟩
  · by_cases h0 : try0 a * try0 a % P = a
    · exact .inl h0
    · rw [if_neg h0] at h
      split at h
      · rename_i h1; exact .inr h1
      · cases h
  · by_cases h0 : try0 a * try0 a % P = a
    · rw [if_pos h0, if_pos h0]; exact ⟨_, rfl⟩
    · rw [if_neg h0]
      rcases h with h | h
      · exact absurd h h0
      · rw [if_pos h]; exact ⟨_, rfl⟩

theorem root_none {a : Nat} (ha : a < P) : rootP a = none ↔ ¬ Sq a := by
  rw [← root_iff ha]
  cases rootP a <;> simp

theorem root_square (a : Nat) (ha : a < P) : ∃ r, rootP (mulP a a) = some r ∧ r % 2 = 0 ∧ r < P ∧ (r = a ∨ r = negP a) := by
  obtain ⟨r, hr⟩ := (root_iff (mulP_lt a a)).2 ⟨a, by unfold mulP; rw [Nat.mod_mod]⟩
  obtain ⟨h1, h2, h3⟩ := root_is hr
  refine ⟨r, hr, h2, h3, ?_⟩
  rcases square_eq h3 ha h1 with e | e | e
  · exact .inl e
  · right
    rw [negP_of a ha]
    split
    · omega
    · omega
  · left; omega

theorem root_zero : rootP 0 = some 0 := by
  obtain ⟨s, hs⟩ := (root_iff P_pos).2 ⟨0, rfl⟩
  obtain ⟨h1, _, h3⟩ := root_is hs
  rcases (mulP_nil s s h3 h3).1 h1 with e | e <;> rw [hs, e]

/-- has it a root? -/
def hasR (a : Nat) : Bool := (rootP a).isSome
theorem hasR_iff {a : Nat} (ha : a < P) : hasR a = true ↔ Sq a := by
  rw [← root_iff ha, hasR, Option.isSome_iff_exists]
theorem Sq_mod (a : Nat) : Sq (a % P) ↔ Sq a := by unfold Sq; rw [Nat.mod_mod]
theorem hasR_twice (a : Nat) (ha : a < P) (h : a ≠ 0) : hasR (addP a a) = !hasR a := by
  have h1 := hasR_iff ha
  have h2 := hasR_iff (addP_lt a a)
  unfold addP at h2 ⊢
  rw [Sq_mod, sq_twice (by rw [Nat.mod_eq_of_lt ha]; exact h), ← h1] at h2
  revert h1 h2
  cases hasR a <;> cases hasR ((a + a) % P) <;> simp
theorem hasR_mul (a b : Nat) (ha : a < P) (hb : b < P) (h : a ≠ 0) (h' : b ≠ 0) : hasR (mulP a b) = (hasR a == hasR b) := by
  have h1 := hasR_iff ha
  have h3 := hasR_iff hb
  have h2 := hasR_iff (mulP_lt a b)
  unfold mulP at h2 ⊢
  rw [Sq_mod, sq_mul (by rw [Nat.mod_eq_of_lt ha]; exact h) (by rw [Nat.mod_eq_of_lt hb]; exact h'), ← h1, ← h3] at h2
  revert h1 h2 h3
  cases hasR a <;> cases hasR b <;> cases hasR (a * b % P) <;> simp

/-! closed -/
theorem try0_pm (a : Nat) : try0 a = pm P 256 a eighth := (pm_eq P 256 a eighth (by decide)).symm
theorem rootP_of (a : Nat) : rootP a = (let t := pm P 256 a eighth; let b := if t * t % P = a then t else t * rootI % P; if b * b % P = a then some (if b % 2 = 1 then (P - b) % P else b) else none) := by
  unfold rootP rootB try1 negP
  rw [try0_pm]
theorem root4 : rootP 4 = some 2 := by rw [rootP_of]; decide +kernel
theorem root2 : rootP 2 = none := by rw [rootP_of]; decide +kernel
theorem root9 : rootP 9 = some (negP 3) := by rw [rootP_of]; decide +kernel
theorem rootM : rootP (negP 1) = some rootI := by rw [rootP_of]; decide +kernel
theorem inv2 : mulP (invE 2) 2 = 1 := by rw [mulP_comm]; exact mulP_inv 2 (by decide) (by decide)
end Go.Proofs.YtpaendmdcdeemaaDoor.Num
