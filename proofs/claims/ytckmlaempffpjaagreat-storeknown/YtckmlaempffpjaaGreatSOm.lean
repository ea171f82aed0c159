/-
  What StoreOrder needs: one row a change; lists of keys in order.
-/
import Derived.Test.YtckmlaempffpjaaGreatGM
namespace Go.Proofs.YtckmlaempffpjaaGreat
open Go.RowKit Go.Shelf

theorem one_apply (l : List Rw) (x : Rw) : applyR l [x] [] = putR l x := rfl
theorem ref_one (x : Rw) : refR [x] [] = if x.k.size = 0 then 2 else if 64 < x.k.size ∨ 262144 < x.v.size then 3 else 0 := by
  have ek : keysOf [x] [] = [x.k] := rfl
  have ea : ∀ f : ByteArray → Bool, [x.k].any f = f x.k := fun f => by simp
  unfold refR lng lngV
  rw [ek, ea, ea]
  have el : ([x] : List Rw).length + ([] : List ByteArray).length = 1 := rfl
  rw [el]
  have ev : ([x].any fun y : Rw => decide (262144 < y.v.size)) = decide (262144 < x.v.size) := by simp
  rw [ev]
  by_cases h0 : x.k.size = 0
  · rw [if_pos h0, if_pos (decide_eq_true h0)]
  · rw [if_neg h0, if_neg (by rw [decide_eq_false h0]; decide)]
    by_cases h1 : 64 < x.k.size ∨ 262144 < x.v.size
    · rw [if_pos h1, if_pos]
      rcases h1 with h1 | h1 <;> simp [h1]
    · rw [if_neg h1, if_neg]
      have a1 : ¬ 64 < x.k.size := fun h => h1 (.inl h)
      have a2 : ¬ 262144 < x.v.size := fun h => h1 (.inr h)
      simp [a1, a2]
theorem frame_one (x : Rw) : (frameB [x] []).length = 8 + rsz x := by
  rw [frame_len]
  simp [laidR]
/-! lists of keys -/
end Go.Proofs.YtckmlaempffpjaaGreat
