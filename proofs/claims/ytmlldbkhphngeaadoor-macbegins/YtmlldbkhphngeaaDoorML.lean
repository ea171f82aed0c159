/-
  what the laws share.
-/
import Derived.Test.YtmlldbkhphngeaaDoorM3
namespace Go.Proofs.YtmlldbkhphngeaaDoor
open Go.RowKit


theorem hm_one (k a : ByteArray) : Value.string ⟨(hmP k (catP [a] 1)).toArray⟩ = .string ⟨(hmP k (bl a)).toArray⟩ := rfl
theorem hm_two (k a b : ByteArray) : Value.string ⟨(hmP k (catP [a, b] 2)).toArray⟩ = .string ⟨(hmP k (bl (a ++ b))).toArray⟩ := by rw [bl_append]; rfl
theorem hm_four (k a b : ByteArray) : Value.string ⟨(hmP k (catP [{ data := #[] }, a, { data := #[] }, b] 4)).toArray⟩ = .string ⟨(hmP k (bl (a ++ b))).toArray⟩ := by
  have e : catP [{ data := #[] }, a, { data := #[] }, b] 4 = bl a ++ bl b := by
    show ((([] ++ []) ++ bl a) ++ []) ++ bl b = _
    rw [List.append_nil, List.append_nil, List.nil_append]
  rw [bl_append, e]
end Go.Proofs.YtmlldbkhphngeaaDoor
