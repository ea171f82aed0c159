/-
  DiskFalls, in mathematics: so many operations, then none.
-/
import Derived.Test.YtjedhnjjgmbcbaaD12
namespace Go.Proofs.Ytjedhnjjgmbcbaa
open Go.RowKit

def faX (k : Nat) : List FA := if k = 0 then [] else [⟨{ data := #[97] }, List.replicate k 120, 0⟩]
/-- behind k calls of an armed disk -/
def faD (a k : Nat) : DS := if k < a then ⟨faX k, 65536 - k, a - k, false, List.replicate k 1⟩ else ⟨faX (a - 1), 65536 - (a - 1), 0, true, List.replicate (a - 1) 1⟩
theorem fa_used (k : Nat) : used (faX k) = k := by
  unfold faX
  split
  · rename_i h; rw [h]; rfl
  · simp [used]
theorem fa_mem {k : Nat} {x : FA} (h : x ∈ faX k) : x.nm = { data := #[97] } := by
  unfold faX at h
  split at h
  · cases h
  · rw [List.mem_singleton.1 h]
theorem fa_len (k : Nat) : (faX k).length ≤ 1 := by
  unfold faX
  split <;> simp
theorem fa_nd (k : Nat) : ((faX k).map (·.nm)).Nodup := by
  unfold faX
  split <;> simp
theorem fa_DB {a k : Nat} (h1 : 1 ≤ a) (ha : a ≤ 100) : DB (faD a k) 100 100 := by
  unfold faD
  split
  · exact ⟨by rw [fa_used]; show 65536 - k + k ≤ _; omega, by show a - k ≤ _; omega, by rw [fa_used]; omega, by simp; omega, fun x hx => by rw [fa_mem hx]; decide, by have := fa_len k; show (faX k).length ≤ 100; omega, fa_nd _⟩
  · exact ⟨by rw [fa_used]; show 65536 - (a - 1) + (a - 1) ≤ _; omega, Nat.zero_le _, by rw [fa_used]; omega, by simp; omega, fun x hx => by rw [fa_mem hx]; decide, by have := fa_len (a - 1); show (faX (a - 1)).length ≤ 100; omega, fa_nd _⟩
theorem fa_up (k : Nat) : updF (mkF (faX k) { data := #[97] }) { data := #[97] } (fun x => { x with da := x.da ++ bl { data := #[120] } }) = faX (k + 1) := by
  have e : bl { data := #[120] } = [120] := rfl
  rw [e]
  unfold faX
  rcases k with _ | k
  · simp [mkF, updF]
  · simp only [Nat.add_one_ne_zero, if_false]
    have h : mkF [(⟨{ data := #[97] }, List.replicate (k + 1) 120, 0⟩ : FA)] { data := #[97] } = [⟨{ data := #[97] }, List.replicate (k + 1) 120, 0⟩] := by simp [mkF]
    rw [h]
    simp [updF, List.replicate_succ']
theorem fa_step_y {a k : Nat} (hk : k + 1 < a) (ha : a ≤ 100) : AppendD (faD a k) { data := #[97] } { data := #[120] } = (faD a (k + 1), 0) := by
  have e1 : faD a k = ⟨faX k, 65536 - k, a - k, false, List.replicate k 1⟩ := if_pos (by omega)
  have e2 : faD a (k + 1) = ⟨faX (k + 1), 65536 - (k + 1), a - (k + 1), false, List.replicate (k + 1) 1⟩ := if_pos hk
  have e3 : spendD (faD a k) = ⟨faX k, 65536 - k, a - k - 1, false, List.replicate k 1⟩ := by
    rw [e1, spendD]
    simp only [DS.mk.injEq, true_and, and_true]
    rw [if_neg (by omega)]
    exact decide_eq_false (by omega)
  have e4 : appD (spendD (faD a k)) { data := #[97] } { data := #[120] } = (⟨faX (k + 1), 65536 - k - 1, a - k - 1, false, List.replicate k 1⟩, 1, 0) := by
    rw [e3, appD, if_neg (by decide), if_neg (by show ¬ 65536 - k < 1; omega), fa_up]
    rfl
  rw [AppendD, e4, opD, e3, if_neg (by simp), if_pos rfl, e2]
  simp only [Prod.mk.injEq, DS.mk.injEq, true_and, and_true]
  exact ⟨by omega, by omega, by rw [List.replicate_succ']⟩
theorem fa_step_n {a k : Nat} (hk : ¬ k + 1 < a) : AppendD (faD a k) { data := #[97] } { data := #[120] } = (faD a (k + 1), 16) := by
  have e2 : faD a (k + 1) = ⟨faX (a - 1), 65536 - (a - 1), 0, true, List.replicate (a - 1) 1⟩ := if_neg hk
  have e3 : spendD (faD a k) = faD a (k + 1) := by
    rw [e2]
    by_cases h : k < a
    · have hk' : k = a - 1 := by omega
      rw [faD, if_pos h, spendD, hk']
      simp only [DS.mk.injEq, true_and, and_true]
      rw [if_neg (by omega)]
      exact ⟨by omega, decide_eq_true (by omega)⟩
    · rw [faD, if_neg h, spendD]
      simp
  rw [AppendD, opD, e3, if_pos (by rw [e2])]
theorem fa_down (a k : Nat) : (faD a k).down = decide (a ≤ k) := by
  unfold faD
  split
  · rename_i h; rw [decide_eq_false (by omega)]
  · rename_i h; rw [decide_eq_true (by omega)]
theorem fa_end {a k : Nat} (h : a ≤ k) : faD a k = ⟨faX (a - 1), 65536 - (a - 1), 0, true, List.replicate (a - 1) 1⟩ := if_neg (by omega)
/-- behind the waking something can be put -/
theorem fa_last {D : DS} (ks : List Int) (hf : 1 ≤ D.free) : (AppendD (wakeD D ks) { data := #[98] } { data := #[121] }).2 = 0 ∧ (AppendD (wakeD D ks) { data := #[98] } { data := #[121] }).1.down = false := by
  have h1 := wk_used D.fs ks D.fs.length
  have hs : spendD (wakeD D ks) = wakeD D ks := by simp [spendD, wakeD]
  have e4 : (appD (spendD (wakeD D ks)) { data := #[98] } { data := #[121] }).2.2 = 0 := by
    rw [hs, appD, if_neg (by decide), if_neg (by show ¬ D.free + used D.fs - used (wkK D.fs ks D.fs.length) < 1; omega)]
  have e5 : (appD (spendD (wakeD D ks)) { data := #[98] } { data := #[121] }).1.down = false := by
    rw [hs, appD, if_neg (by decide), if_neg (by show ¬ D.free + used D.fs - used (wkK D.fs ks D.fs.length) < 1; omega)]
    rfl
  have e6 : ¬ (spendD (wakeD D ks)).down = true := by rw [hs]; exact (by decide : ¬ false = true)
  refine ⟨?_, ?_⟩
  · rw [AppendD, opD, if_neg e6, if_pos e4]
  · rw [AppendD, opD, if_neg e6, if_pos e4]
    exact e5
end Go.Proofs.Ytjedhnjjgmbcbaa
