/-
  A drawn region in which some operations read a variable that the region writes later: those operations are moves, and whoever writes there waits for them.
-/
import Derived.Test.YtpaendmdcdeemaaDoorGhost
namespace Go.Proofs.YtpaendmdcdeemaaDoor
open Go

section
variable {P : Program} {ops : Array Oper} {Q : Exit → Act → World → Prop} {md : Region.Mode} {S : (Nat → Nat) → (Nat → Bool) → World → Prop} {F : (Nat → Nat) → Act} {old : List Nat} {a0 : Act}

/-- where nobody has written stands what stood there at first; who has come up has waited for all -/
structure Fresh (ops : Array Oper) (md : Region.Mode) (a0 : Act) (listed : Array Bool) (a : Act) : Prop where
  was : ∀ t, (∀ (j : Nat) (o : Oper), ops[j]? = some o → o.dst = some t → listed.getD j true = false) → a.tmps[t]? = a0.tmps[t]?
  closed : ∀ (j : Nat) (o : Oper), ops[j]? = some o → listed.getD j true = true → ∀ e ∈ o.after, Region.binds md e = true → listed.getD e.on true = true
theorem Fresh.put {listed : Array Bool} {a : Act} {i : Nat} {o : Oper} {v : Value} (h : Fresh ops md a0 listed a) (hsz : listed.size = ops.size) (ho : ops[i]? = some o) (hall : ∀ e ∈ o.after, Region.binds md e = true → listed.getD e.on false = true) :
    Fresh ops md a0 (listed.setIfInBounds i true) (a.put o.dst v) := by
  have hlt : i < listed.size := by rw [hsz]; exact (Array.getElem?_eq_some_iff.1 ho).1
  have mono : ∀ j, listed.getD j true = true → (listed.setIfInBounds i true).getD j true = true := fun j hj => by
    by_cases hij : i = j
    · subst hij; simp [hlt]
    · rw [getD_set_ne true hij]; exact hj
  refine ⟨fun t ht => ?_, fun j oj hj hl e he hb => ?_⟩
  · have hne : o.dst ≠ some t := fun hd => by
      have := ht i o ho hd
      simp [hlt] at this
    have h1 : a.tmps[t]? = a0.tmps[t]? := h.was t fun j oj hj hd => by
      have h2 := ht j oj hj hd
      by_cases hij : i = j
      · subst hij; simp [hlt] at h2
      · rwa [getD_set_ne true hij] at h2
    rw [← h1]
    cases hd : o.dst with
    | none => rfl
    | some d =>
      simp only [Act.put]
      exact Array.getElem?_setIfInBounds_ne (fun e => hne (by rw [hd, e]))
  · refine mono _ ?_
    by_cases hij : i = j
    · subst hij
      rw [ho] at hj
      cases hj
      exact getD_true_false (hall e he hb)
    · rw [getD_set_ne true hij] at hl
      exact h.closed j oj hj hl e he hb

/-- a move of what stood there at first -/
def OpOld (S : (Nat → Nat) → (Nat → Bool) → World → Prop) (F : (Nat → Nat) → Act) (a0 : Act) (i : Nat) (o : Oper) : Prop :=
  ∃ t d ty pos aft, o = ⟨some d, .move (.tmp t), ty, pos, aft, none⟩ ∧ (∀ g, (F g).put (some d) (a0.tmps.getD t undef) = F g) ∧ ∀ g d w, S g d w → S g (up d i true) w

def AllGhost2 (P : Program) (old : List Nat) (md : Region.Mode) (ops : Array Oper) (Q : Exit → Act → World → Prop) (S : (Nat → Nat) → (Nat → Bool) → World → Prop) (F : (Nat → Nat) → Act) (a0 : Act) : Nat → List Oper → Prop
  | _, [] => True
  | i, o :: os => ((old.contains i = false ∧ OpGhost P md ops Q S F i o) ∨ (old.contains i = true ∧ OpOld S F a0 i o)) ∧ AllGhost2 P old md ops Q S F a0 (i + 1) os
theorem AllGhost2.nil {i : Nat} : AllGhost2 P old md ops Q S F a0 i [] := trivial
theorem AllGhost2.cons {i : Nat} {o : Oper} {os : List Oper} (hn : old.contains i = false) (h : OpGhost P md ops Q S F i o) (hs : AllGhost2 P old md ops Q S F a0 (i + 1) os) : AllGhost2 P old md ops Q S F a0 i (o :: os) := ⟨.inl ⟨hn, h⟩, hs⟩
theorem AllGhost2.get : ∀ {os : List Oper} {k : Nat}, AllGhost2 P old md ops Q S F a0 k os → ∀ i o, os[i]? = some o → (old.contains (k + i) = false ∧ OpGhost P md ops Q S F (k + i) o) ∨ (old.contains (k + i) = true ∧ OpOld S F a0 (k + i) o) := by
  intro os
  induction os with
  | nil => intro k _ i o ho; simp at ho
  | cons x xs ih =>
    intro k h i o ho
    cases i with
    | zero => obtain rfl : x = o := by simpa using ho
              exact h.1
    | succ i =>
      have := ih h.2 i o (by simpa using ho)
      rwa [Nat.add_right_comm, Nat.add_assoc] at this

end
end Go.Proofs.YtpaendmdcdeemaaDoor
