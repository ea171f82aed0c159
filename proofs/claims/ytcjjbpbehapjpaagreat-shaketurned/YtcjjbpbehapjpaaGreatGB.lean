/-
  rule: a term is known, once all of these are.
-/
import Derived.Test.YtcjjbpbehapjpaaGreatTR
namespace Go.Proofs.YtcjjbpbehapjpaaGreat
open Go.RowKit

end Go.Proofs.YtcjjbpbehapjpaaGreat

namespace Go.Proofs.YtcjjbpbehapjpaaGreat
open Go.RowKit

end Go.Proofs.YtcjjbpbehapjpaaGreat

namespace Go.Proofs.YtcjjbpbehapjpaaGreat
open Go.RowKit

/-! what is laid -/
/-- what every table has besides -/
structure Wg (es : List Ent) : Prop where
  lt : ∀ (i : Nat) k n s ps b, es[i]? = some (Ent.mk k n s ps b) → ∀ x ∈ ps, x < es.length
  two : ∀ (i : Nat) n s ps b, es[i]? = some (Ent.mk 4 n s ps b) → ps.length = 2
  four : ∀ (i : Nat) n s ps b, es[i]? = some (Ent.mk 6 n s ps b) → ps.length = 4
  sig : ∀ (i : Nat) n s ps b, es[i]? = some (Ent.mk 7 n s ps b) → ps.length = 2
theorem Wg.nil : Wg [] := ⟨fun i _ _ _ _ _ h => by simp at h, fun i _ _ _ _ h => by simp at h, fun i _ _ _ _ h => by simp at h, fun i _ _ _ _ h => by simp at h⟩
theorem Wg.app {es : List Ent} (h : Wg es) (e : Ent) (h1 : ∀ k n s ps b, e = .mk k n s ps b → (∀ x ∈ ps, x < es.length) ∧ (k = 4 → ps.length = 2) ∧ (k = 6 → ps.length = 4) ∧ (k = 7 → ps.length = 2)) : Wg (es ++ [e]) := by
  have key : ∀ (i : Nat) x, (es ++ [e])[i]? = some x → es[i]? = some x ∨ x = e := fun i x hx => by
    rcases Nat.lt_or_ge i es.length with hi | hi
    · rw [List.getElem?_append_left hi] at hx; exact .inl hx
    · rw [List.getElem?_append_right hi] at hx
      cases hj : i - es.length with
      | zero => rw [hj] at hx; exact .inr (Option.some.inj hx).symm
      | succ j => rw [hj] at hx; cases hx
  refine ⟨fun i k n s ps b hi x hx => ?_, fun i n s ps b hi => ?_, fun i n s ps b hi => ?_, fun i n s ps b hi => ?_⟩
  · rw [List.length_append, List.length_singleton]
    rcases key i _ hi with h' | h'
    · have := h.lt i k n s ps b h' x hx; omega
    · have := (h1 k n s ps b h'.symm).1 x hx; omega
  · rcases key i _ hi with h' | h'
    · exact h.two i n s ps b h'
    · exact (h1 4 n s ps b h'.symm).2.1 rfl
  · rcases key i _ hi with h' | h'
    · exact h.four i n s ps b h'
    · exact (h1 6 n s ps b h'.symm).2.2.1 rfl
  · rcases key i _ hi with h' | h'
    · exact h.sig i n s ps b h'
    · exact (h1 7 n s ps b h'.symm).2.2.2 rfl
theorem Wg.nm {es : List Ent} (h : Wg es) (n : Nat) : Wg (es ++ [.nm n]) := h.app _ (fun _ _ _ _ _ h => by cases h)
theorem Wg.part {es : List Ent} (h : Wg es) (s : ByteArray) : Wg (partF es s).1 := by
  unfold partF
  split
  · exact h
  · split
    · exact h
    · exact h.app _ (fun _ _ _ _ _ h => by cases h)
theorem Wg.parts {es : List Ent} (h : Wg es) (ss : List ByteArray) : ∀ k, Wg (pfE es ss k)
  | 0 => h
  | k + 1 => (h.parts ss k).part _
theorem secT_lt {es : List Ent} (h : Wg es) (h' : Wf es) {p b : Nat} (hb : secT es p = some b) : b < es.length := by
  unfold secT at hb
  split at hb
  · rename_i k n s ps c he
    split at hb
    · rename_i hk
      subst hk
      obtain rfl := Option.some.inj hb
      have hl := h'.one p n s ps c he
      refine h.lt p 3 n s ps c he _ ?_
      rw [List.getD_eq_getElem?_getD, List.getElem?_eq_getElem (by omega)]
      exact List.getElem_mem _
    · cases hb
  · cases hb
theorem JO.wg {es es' : List Ent} {k x : Nat} {label : ByteArray} {ss : List ByteArray} (hg : Wg es) (hw : Wf es) (h : JO es k label ss x es') (hl : es.length + ss.length < 60000) (h4 : k = 4 → ss.length = 2) (h6 : k = 6 → ss.length = 4) (h7 : k = 7 → ss.length = 2) : Wg es' := by
  have h1 := hg.parts ss ss.length
  have h2 := hw.parts ss ss.length (by omega)
  rcases h with ⟨_, rfl⟩ | ⟨_, _, b, rfl⟩
  · exact h1
  · refine h1.app _ (fun k' n' s' ps' b' e => ?_)
    cases e
    by_cases hk : k = 4
    · subst hk
      have e3 : joinP (pfE es ss ss.length) 4 (pfN es ss ss.length) = dhP (pfE es ss ss.length) ((pfN es ss ss.length).getD 0 0) ((pfN es ss ss.length).getD 1 0) := if_pos rfl
      have n0 := ns_lt es ss (j := 0) (by have := h4 rfl; omega)
      have n1 := ns_lt es ss (j := 1) (by have := h4 rfl; omega)
      rw [e3]
      refine ⟨fun y hy => ?_, fun _ => dhP_len _ _ _, fun h => by omega, fun h => by omega⟩
      unfold dhP at hy
      split at hy
      · rename_i c hc
        have := secT_lt h1 h2 hc
        simp only [List.mem_cons, List.not_mem_nil, or_false] at hy
        omega
      · simp only [List.mem_cons, List.not_mem_nil, or_false] at hy
        omega
    · have e3 : joinP (pfE es ss ss.length) k (pfN es ss ss.length) = pfN es ss ss.length := if_neg hk
      rw [e3]
      exact ⟨pfN_lt es ss ss.length, fun h => absurd h hk, fun h => by rw [pfN_len]; exact h6 h, fun h => by rw [pfN_len]; exact h7 h⟩
end Go.Proofs.YtcjjbpbehapjpaaGreat

namespace Go.Proofs.YtcjjbpbehapjpaaGreat
open Go.RowKit

end Go.Proofs.YtcjjbpbehapjpaaGreat

namespace Go.Proofs.YtcjjbpbehapjpaaGreat
open Go.RowKit

end Go.Proofs.YtcjjbpbehapjpaaGreat

namespace Go.Proofs.YtcjjbpbehapjpaaGreat
open Go.RowKit

theorem made_rep (v : Value) (c : Nat) : madeCells #[v] c = (List.replicate c v).toArray := by
  apply Array.ext
  · simp [size_madeCells]
  · intro i h1 h2
    simp [madeCells, Nat.mod_one]
end Go.Proofs.YtcjjbpbehapjpaaGreat

namespace Go.Proofs.YtcjjbpbehapjpaaGreat
open Go.RowKit

inductive Itm where
  | n
  | d (w : List Nat)
  | m (k n : Nat) (ps : List Nat)
end Go.Proofs.YtcjjbpbehapjpaaGreat

namespace Go.Proofs.YtcjjbpbehapjpaaGreat
open Go.RowKit

end Go.Proofs.YtcjjbpbehapjpaaGreat
