/-
  ShakeHidden: the law.
-/
import Derived.Test.YtcjjbpbehapjpaaGreatH3
import Derived.Test.YtcjjbpbehapjpaaGreatGF
namespace Go.Proofs.YtcjjbpbehapjpaaGreat
open Go.RowKit

section
variable {z : Base} {w : World} {Ls Lk X F : BL} {a : Nat × TypeId × Array Value}
theorem HA.mvS (H : HA z (a :: (F ++ ((Ls ++ Lk) ++ X))) w) : HA z (a :: (Ls ++ (F ++ (Lk ++ X)))) w := H.perm (by
  refine List.Perm.cons _ ?_
  have e : F ++ ((Ls ++ Lk) ++ X) = (F ++ Ls) ++ (Lk ++ X) := by simp
  have e2 : Ls ++ (F ++ (Lk ++ X)) = (Ls ++ F) ++ (Lk ++ X) := by simp
  rw [e, e2]
  exact List.Perm.append_right _ List.perm_append_comm)
theorem HA.bkS (H : HA z (Ls ++ (F ++ (Lk ++ X))) w) : HA z (F ++ ((Ls ++ Lk) ++ X)) w := H.perm (by
  have e : F ++ ((Ls ++ Lk) ++ X) = (F ++ Ls) ++ (Lk ++ X) := by simp
  have e2 : Ls ++ (F ++ (Lk ++ X)) = (Ls ++ F) ++ (Lk ++ X) := by simp
  rw [e, e2]
  exact List.Perm.append_right _ List.perm_append_comm)
theorem HA.mvK (H : HA z (a :: (F ++ ((Ls ++ Lk) ++ X))) w) : HA z (a :: (Lk ++ ((F ++ Ls) ++ X))) w := H.perm (by
  refine List.Perm.cons _ ?_
  have e : F ++ ((Ls ++ Lk) ++ X) = ((F ++ Ls) ++ Lk) ++ X := by simp
  have e2 : Lk ++ ((F ++ Ls) ++ X) = (Lk ++ (F ++ Ls)) ++ X := by simp
  rw [e, e2]
  exact List.Perm.append_right _ List.perm_append_comm)
theorem HA.bkK (H : HA z (Lk ++ ((F ++ Ls) ++ X)) w) : HA z (F ++ ((Ls ++ Lk) ++ X)) w := H.perm (by
  have e : F ++ ((Ls ++ Lk) ++ X) = ((F ++ Ls) ++ Lk) ++ X := by simp
  have e2 : Lk ++ ((F ++ Ls) ++ X) = (Lk ++ (F ++ Ls)) ++ X := by simp
  rw [e, e2]
  exact List.Perm.append_right _ List.perm_append_comm)
end
theorem made_H {w0 w : World} {M : ML} {L : BL} (H0 : HA ⟨w0, M⟩ L w) :
    Calls Tryz.prog 24 #[iN .i64 1, .string { data := #[] }, .string { data := #[] }] w fun e w' => ∃ p : Pr, e = .returned (.tuple #[pt p.q, .agg #[.string (txt 0), .string (txt 1)], .agg #[.string (txt 2), .string (txt 3)]]) ∧ PH w0 M p (hk 0) 0 L w' := by
  have h := made_P H0
  rw [show tk 4 = hk 0 from by kernel_rfl] at h
  exact h
theorem boc_at {l : List Bool} {j : Nat} (h : l.getD j true = false) : (boc l)[j]? = some (.bool false) := by
  rw [List.getD_eq_getElem?_getD] at h
  cases e : l[j]? with
  | none => rw [e] at h; cases h
  | some b =>
    rw [e] at h
    unfold boc
    simp only [Option.getD_some] at h
    subst h
    simp [e]
end Go.Proofs.YtcjjbpbehapjpaaGreat
