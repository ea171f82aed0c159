/-
  A region that draws its order, in which one operation reads a variable that the region writes later: a move, for which whoever writes there waits.
-/
import Derived.Test.YtiogegoepgkjlaaWy
namespace Go.Proofs.Ytiogegoepgkjlaa
open Go Go.RowKit

/-- whoever writes t waits for i -/
def oldB (ops : Array Oper) (i : Nat) (t : Tmp) : Bool := (List.range ops.size).all fun j =>
  match ops[j]? with
  | none => true
  | some oj => oj.dst != some t || oj.after.any fun e => Region.binds .any e && e.on == i
theorem oldB_at {ops : Array Oper} {i : Nat} {t : Tmp} (h : oldB ops i t = true) {j : Nat} {oj : Oper} (hj : ops[j]? = some oj) (hd : oj.dst = some t) : ∃ e ∈ oj.after, Region.binds .any e = true ∧ e.on = i := by
  have h1 := List.all_eq_true.1 h j (List.mem_range.2 (Array.getElem?_eq_some_iff.1 hj).1)
  simp only [hj, hd, bne_self_eq_false, Bool.false_or] at h1
  obtain ⟨e, he, h2⟩ := Array.any_eq_true'.1 h1
  rw [Bool.and_eq_true] at h2
  exact ⟨e, he, h2.1, by simpa using h2.2⟩
section
variable {P : Program} {ops : Array Oper} {Q : Exit → Act → World → Prop} {i : Nat} {t : Tmp} {v : Value} {dst : Option Tmp} {ty : TypeId} {pos : String} {aft : Array Edge}
/-- with the value in its place -/
def withV (ops : Array Oper) (i : Nat) (dst : Option Tmp) (ty : TypeId) (pos : String) (aft : Array Edge) (v : Value) : Array Oper := ops.setIfInBounds i ⟨dst, .move (.const v), ty, pos, aft, none⟩
theorem withV_ne {j : Nat} (h : i ≠ j) : (withV ops i dst ty pos aft v)[j]? = ops[j]? := by
  unfold withV
  exact Array.getElem?_setIfInBounds_ne h
theorem withV_at (ho : ops[i]? = some ⟨dst, .move (.tmp t), ty, pos, aft, none⟩) : (withV ops i dst ty pos aft v)[i]? = some ⟨dst, .move (.const v), ty, pos, aft, none⟩ := by
  unfold withV
  have hlt := (Array.getElem?_eq_some_iff.1 ho).1
  rw [Array.getElem?_setIfInBounds_self_of_lt hlt]
theorem withV_size : (withV ops i dst ty pos aft v).size = ops.size := by simp [withV]
theorem yielded_withV (ho : ops[i]? = some ⟨dst, .move (.tmp t), ty, pos, aft, none⟩) (ts : Array Value) : yielded (withV ops i dst ty pos aft v) ts = yielded ops ts := by
  funext g
  unfold yielded
  by_cases e : i = g
  · subst e; rw [withV_at ho, ho]; rfl
  · rw [withV_ne e]
theorem ready_withV (ho : ops[i]? = some ⟨dst, .move (.tmp t), ty, pos, aft, none⟩) (listed : Array Bool) : Region.ready .any (withV ops i dst ty pos aft v) listed = Region.ready .any ops listed := by
  unfold Region.ready
  rw [withV_size]
  refine List.filter_congr fun j _ => ?_
  by_cases e : i = j
  · subst e; rw [withV_at ho, ho]; rfl
  · rw [withV_ne e]
theorem eval_put_ne {a : Act} {d : Option Tmp} {u : Value} (h : d ≠ some t) : (a.put d u).eval (.tmp t) = a.eval (.tmp t) := Act.eval_put fun d' hd e => h (by rw [hd]; cases e; rfl)
theorem any_old (ho : ops[i]? = some ⟨dst, .move (.tmp t), ty, pos, aft, none⟩) (hold : oldB ops i t = true) : ∀ (fuel : Nat) (listed : Array Bool) (a : Act) (w : World), (listed.getD i false = false → a.eval (.tmp t) = v) →
    wpAny P .any (withV ops i dst ty pos aft v) Q fuel listed a w → wpAny P .any ops Q fuel listed a w
  | 0, listed, a, w, _, h => by
    unfold wpAny at h ⊢
    rw [ready_withV ho] at h
    exact h
  | fuel + 1, listed, a, w, hv, h => by
    unfold wpAny at h ⊢
    rw [ready_withV ho] at h
    refine ⟨h.1, fun j hj => ?_⟩
    have h2 := h.2 j hj
    unfold wpOp at h2 ⊢
    by_cases e : i = j
    · subst e
      rw [withV_at ho, yielded_withV ho] at h2
      rw [ho]
      simp only at h2 ⊢
      have hw : ∀ o : Op, Region.wanted (⟨dst, o, ty, pos, aft, none⟩ : Oper) (yielded ops a.tmps) = true := fun _ => rfl
      rw [if_pos (hw _)] at h2 ⊢
      have hlt : i < ops.size := (Array.getElem?_eq_some_iff.1 ho).1
      have hnot : listed.getD i false = false := by
        have := ((mem_ready (md := .any) (ops := ops)).1 hj).1
        cases hl : listed[i]? with
        | none => simp [hl]
        | some b => simp [hl] at this ⊢; exact this
      have hval := hv hnot
      refine h2.imp (fun h3 => ?_) (fun h3 => ?_)
      · unfold Oper.wp at h3 ⊢
        have e1 : (execOp a.eval (⟨dst, .move (.const v), ty, pos, aft, none⟩ : Oper)).run P w = .ok (.value v) w := rfl
        have e2 : (execOp a.eval (⟨dst, .move (.tmp t), ty, pos, aft, none⟩ : Oper)).run P w = .ok (.value v) w := by rw [← hval]; rfl
        rw [e1] at h3
        rw [e2]
        exact any_old ho hold fuel _ _ _ (fun hf => by
          rw [Array.getD_eq_getD_getElem?, Array.getElem?_setIfInBounds] at hf
          exact absurd hf (by
            rw [if_pos rfl]
            split
            · simp
            · rename_i hs
              exact fun _ => hs (by
                have := ((mem_ready (md := .any) (ops := ops)).1 hj).1
                rcases Nat.lt_or_ge i listed.size with h9 | h9
                · exact h9
                · simp [Array.getElem?_eq_none h9] at this))) h3
      · exact ⟨by
          obtain ⟨h4, _⟩ := h3
          unfold Oper.asks at h4 ⊢
          have e1 : execOp a.eval (⟨dst, .move (.const v), ty, pos, aft, none⟩ : Oper) = execOp a.eval (⟨dst, .move (.tmp t), ty, pos, aft, none⟩ : Oper) := by
            show (pure (Next.value v) : Sem Next) = pure (Next.value (a.eval (.tmp t)))
            rw [hval]
          rw [e1] at h4
          exact h4, h3.2⟩
    · rw [withV_ne e, yielded_withV ho] at h2
      cases hoj : ops[j]? with
      | none =>
        rw [hoj] at h2
        exact any_old ho hold fuel _ _ _ (fun hf => hv (by rwa [getD_set_ne false (Ne.symm e)] at hf)) h2
      | some oj =>
        rw [hoj] at h2
        simp only at h2 ⊢
        have keep : ∀ (a' : Act) (w' : World), (listed.getD i false = false → a'.eval (.tmp t) = v) → wpAny P .any (withV ops i dst ty pos aft v) Q fuel (listed.setIfInBounds j true) a' w' → wpAny P .any ops Q fuel (listed.setIfInBounds j true) a' w' := fun a' w' hv' h' =>
          any_old ho hold fuel _ _ _ (fun hf => hv' (by rwa [getD_set_ne false (Ne.symm e)] at hf)) h'
        have hd : listed.getD i false = false → oj.dst ≠ some t := fun hf hdt => by
          obtain ⟨ed, hed, hb, hon⟩ := oldB_at hold hoj hdt
          obtain ⟨_, o2, ho2, hall⟩ := (mem_ready (md := .any) (ops := ops)).1 hj
          rw [hoj] at ho2
          cases ho2
          have := hall ed hed hb
          rw [hon, hf] at this
          cases this
        have kp : ∀ (u : Value) (w' : World), wpAny P .any (withV ops i dst ty pos aft v) Q fuel (listed.setIfInBounds j true) (a.put oj.dst u) w' → wpAny P .any ops Q fuel (listed.setIfInBounds j true) (a.put oj.dst u) w' := fun u w' h' => keep _ w' (fun hf => by rw [eval_put_ne (hd hf)]; exact hv hf) h'
        split at h2
        · rename_i hw
          rw [if_pos hw]
          refine h2.imp (fun h3 => ?_) id
          unfold Oper.wp at h3 ⊢
          generalize (execOp a.eval oj).run P w = r at *
          match r, h3 with
          | .ok (.value u) w', h3 => exact kp u w' h3
          | .ok .skip w', h3 => exact kp undef w' h3
          | .ok (.defer d) w', h3 => exact keep _ w' (fun hf => by rw [eval_put_ne (hd hf)]; exact hv hf) h3
          | .ok (.enter f args) w', h3 =>
            refine Calls.mono h3 fun en w2 he => ?_
            cases en with
            | returned u => exact kp u w2 he
            | panicked c => exact he
            | outgrown => exact he
          | .ok (.row row args) w', h3 => exact Rows.mono h3 fun u w2 he => kp u w2 he
          | .halt (.panic u) w', h3 => exact h3
        · rename_i hw
          rw [if_neg hw]
          exact kp undef w h2
theorem wp_region_wxo {id : Nat} {S : World → Prop} {J : Act → World → Prop} {n : Nat} {a : Act} {w : World} (i : Nat) (v : Value) (ho' : ops.toList[i]? = some ⟨dst, .move (.tmp t), ty, pos, aft, none⟩) (hold : oldB ops i t = true) (hv : a.eval (.tmp t) = v) (hm : P.follows .mixedOrders = true) (hc : sureB .any (withV ops i dst ty pos aft v) = true) (hd : distB (withV ops i dst ty pos aft v) = true) (hsel : Region.noSelect (withV ops i dst ty pos aft v) = true) (hn : (withV ops i dst ty pos aft v).size = n) (hS : S w.drew)
    (h : WXS P (withV ops i dst ty pos aft v) J n S [] [] a w.drew) (hk : ∀ a w, J a w → Q .normal a w) : (Code.region id ops true).wp P Q a w := by
  have ho := lget ho'
  refine wp_region_any hm (any_old ho hold _ _ _ _ (fun _ => hv) ?_)
  have hsz : (withV ops i dst ty pos aft v).size = ops.size := withV_size
  rw [← hsz]
  refine wx_sim hc hd hsel hk n S [] [] a w.drew h.go ?_ (fun j o _ h => by simp at h) (fun j h => by simp at h) _ _ a w.drew (Nat.le_trans (List.countP_le_length) (by simp)) (by simp) (fun j hj h => ?_) (fun j o _ h => ?_) ⟨rfl, rfl, fun _ _ => rfl⟩ hS (Below.refl _ _) (fun j o _ h => by simp at h)
  · subst hn
    unfold cntL
    rw [List.countP_eq_length.2 (by simp)]
    simp
  · simp [hj] at h
  · rw [Array.getD_eq_getD_getElem?, Array.getElem?_replicate] at h
    split at h <;> simp at h
end
end Go.Proofs.Ytiogegoepgkjlaa
