/-
  works.
-/
import Derived.Test.YtoogiblkommdfaaGreatT9
namespace Go.Proofs.YtoogiblkommdfaaGreat
open Go.RowKit

section
variable {P : Program} {ρ : Operand → Value} {x y : Operand} {w : World} {dst : Option Tmp} {T T2 ty : TypeId} {pos : String} {aft : Array Edge} {gd : Option (Nat × Bool)}
theorem run_nes {s t : ByteArray} (hx : ρ x = .string s) (hy : ρ y = .string t) (r : Bool) (hr : decide (s = t) = !r) : (execOp ρ ⟨dst, .binOp .neq T x y T2, ty, pos, aft, gd⟩).run P w = .ok (.value (.bool r)) w := by
  have hr' : (!decide (s = t)) = r := by rw [hr]; simp
  subst hr'
  simp only [execOp, hx, hy]
  by_cases h : s = t
  · subst h; simp [binOp, go_sem, Op.stringOp]
  · have h2 : ¬s.toList = t.toList := fun e => by
      rw [ByteArray.toList_eq, ByteArray.toList_eq] at e
      refine h ?_
      obtain ⟨⟨l⟩⟩ := s
      obtain ⟨⟨m⟩⟩ := t
      exact congrArg (fun l : List UInt8 => (⟨⟨l⟩⟩ : ByteArray)) e
    simp [binOp, go_sem, Op.stringOp, h, h2]
end
theorem Wf.nil : Wf [] := ⟨by simp, fun i _ _ _ _ _ h => by simp at h, fun i _ _ _ _ h => by simp at h, fun i _ _ _ _ _ h => by simp at h⟩
theorem Wf.nm {es : List Ent} (h : Wf es) (n : Nat) (hl : es.length < 60000) : Wf (es ++ [.nm n]) := h.app _ hl (fun _ _ _ _ _ h => by cases h)
theorem joinP_ok {es : List Ent} (h : Wf es) (k : Nat) (ns : List Nat) (hns : ∀ x ∈ ns, x < es.length) (hl : ns.length ≤ 100) (h3 : k = 3 → ns.length = 1) : (∀ j, (joinP es k ns).getD j 0 < 60000) ∧ (joinP es k ns).length ≤ 100 ∧ (k = 3 → (joinP es k ns).length = 1) := by
  have hf := h.few
  unfold joinP
  split
  · rename_i hk
    refine ⟨fun j => ?_, by rw [dhP_len]; decide, fun e => absurd e (by omega)⟩
    have hg : ∀ i, ns.getD i 0 < 60000 := fun i => getD_lt (fun x hx => by have := hns x hx; omega) (by decide) i
    refine getD_lt (fun x hx => ?_) (by decide) j
    unfold dhP at hx
    have h0 := hg 0
    have h1 := hg 1
    split at hx
    · rename_i b hb
      have hb2 : b < 60000 := by
        unfold secT at hb
        split at hb
        · rename_i k n s ps c he
          split at hb
          · obtain rfl := Option.some.inj hb
            exact h.lt _ k n s ps c he 0
          · cases hb
        · cases hb
      simp only [List.mem_cons, List.not_mem_nil, or_false] at hx
      omega
    · simp only [List.mem_cons, List.not_mem_nil, or_false] at hx
      omega
  · exact ⟨fun j => getD_lt (fun x hx => by have := hns x hx; omega) (by decide) j, hl, h3⟩
theorem JO.wf {es es' : List Ent} {k x : Nat} {label : ByteArray} {ss : List ByteArray} (hw : Wf es) (h : JO es k label ss x es') (hl : es.length + ss.length < 60000) (hs : ss.length ≤ 100) (h3 : k = 3 → ss.length = 1) : Wf es' := by
  have h1 := hw.parts ss ss.length (by omega)
  rcases h with ⟨_, rfl⟩ | ⟨_, _, b, rfl⟩
  · exact h1
  · refine h1.app _ (by have := pfE_len es ss ss.length; omega) (fun k' n' s' ps' b' e => ?_)
    cases e
    exact joinP_ok h1 k _ (pfN_lt es ss ss.length) (by rw [pfN_len]; exact hs) (by rw [pfN_len]; exact h3)
theorem strs_le {ss : List ByteArray} {m : Nat} (h : ∀ s ∈ ss, s.size ≤ m) (i : Nat) : (ss.getD i ByteArray.empty).size ≤ m := by
  rw [List.getD_eq_getElem?_getD]
  cases hi : ss[i]? with
  | none => simp
  | some x => simpa using h x (List.mem_of_getElem? hi)
theorem txt_size (n : Nat) : (txt n).size = 8 := putS_size hdS n
end Go.Proofs.YtoogiblkommdfaaGreat
