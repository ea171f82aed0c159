/-
  The steps of a region whose order is drawn (Wx).
-/
import Derived.Test.YtiogegoepgkjlaaWx
import Derived.Test.YtiogegoepgkjlaaT6
namespace Go.Proofs.Ytiogegoepgkjlaa
open Go Go.RowKit

section
variable {P : Program} {ops : Array Oper} {Q : Exit → Act → World → Prop} {S : World → Prop} {J : Act → World → Prop} {n : Nat} {l lp : List Nat} {a : Act} {w : World}
structure WXS (P : Program) (ops : Array Oper) (J : Act → World → Prop) (n : Nat) (S : World → Prop) (l lp : List Nat) (a : Act) (w : World) : Prop where
  go : WXq P ops J n S l lp a w
theorem wp_region_wx {id : Nat} (S : World → Prop) (J : Act → World → Prop) (n : Nat) (hm : P.follows .mixedOrders = true) (hc : sureB .any ops = true) (hd : distB ops = true) (hsel : Region.noSelect ops = true) (hn : ops.size = n) (hS : S w.drew)
    (h : WXS P ops J n S [] [] a w.drew) (hk : ∀ a w, J a w → Q .normal a w) : (Code.region id ops true).wp P Q a w := by
  refine wp_region_any hm (wx_sim hc hd hsel hk n S [] [] a w.drew h.go ?_ (fun j o _ h => by simp at h) (fun j h => by simp at h) _ _ a w.drew (Nat.le_trans (List.countP_le_length) (by simp)) (by simp) (fun j hj h => ?_) (fun j o _ h => ?_) ⟨rfl, rfl, fun _ _ => rfl⟩ hS (Below.refl _ _) (fun j o _ h => by simp at h))
  · subst hn
    unfold cntL
    rw [List.countP_eq_length.2 (by simp)]
    simp
  · simp [hj] at h
  · rw [Array.getD_eq_getD_getElem?, Array.getElem?_replicate] at h
    split at h <;> simp at h
theorem wp_region_wxh {id : Nat} {z : Base} {L : BL} (H : HA z L w) (J : Act → World → Prop) (n : Nat) (hm : P.follows .mixedOrders = true) (hc : sureB .any ops = true) (hd : distB ops = true) (hsel : Region.noSelect ops = true) (hn : ops.size = n)
    (h : WXS P ops J n (HA z L) [] [] a w.drew) (hk : ∀ a w, J a w → Q .normal a w) : (Code.region id ops true).wp P Q a w := wp_region_wx _ J n hm hc hd hsel hn H.drew h hk
theorem wx_end (h : ∀ w1, Below w.heap.size w w1 → S w1 → J a w1) : WXS P ops J 0 S l lp a w := ⟨h⟩
theorem lget {i : Nat} {o : Oper} (h : ops.toList[i]? = some o) : ops[i]? = some o := by rw [← Array.getElem?_toList]; exact h
theorem wx_pure {i : Nat} {o : Oper} (v : Value) (ho' : ops.toList[i]? = some o) (hl : l.contains i = false) (ha : aftB o l = true) (hw : Region.wanted o (yielded ops a.tmps) = true) (hr : ∀ w1, (execOp a.eval o).run P w1 = .ok (.value v) w1)
    (h : WXS P ops J n S (i :: l) (i :: lp) (a.put o.dst v) w) : WXS P ops J (n + 1) S l lp a w := ⟨.inl ⟨i, o, v, true, lget ho', hl, ha, by rw [if_pos hw]; exact hr, h.go⟩⟩
theorem zp (i : Nat) {o : Oper} (v : Value) (h : WXS P ops J n S (i :: l) (i :: lp) (a.put o.dst v) w) (ho' : ops.toList[i]? = some o := by rfl) (hl : l.contains i = false := by rfl) (ha : aftB o l = true := by kernel_rfl) (hw : Region.wanted o (yielded ops a.tmps) = true := by kernel_rfl) (hr : ∀ w1, (execOp a.eval o).run P w1 = .ok (.value v) w1 := by intro w1; kernel_rfl) : WXS P ops J (n + 1) S l lp a w := wx_pure v ho' hl ha hw hr h
theorem wx_val {i : Nat} {o : Oper} (v : Value) (ho' : ops.toList[i]? = some o) (hl : l.contains i = false) (ha : aftB o l = true) (hw : Region.wanted o (yielded ops a.tmps) = true) (hr : ∀ w1, S w1 → (execOp a.eval o).run P w1 = .ok (.value v) w1)
    (h : WXS P ops J n S (i :: l) lp (a.put o.dst v) w) : WXS P ops J (n + 1) S l lp a w := ⟨.inl ⟨i, o, v, false, lget ho', hl, ha, by rw [if_pos hw]; exact fun w1 h1 => .inl (hr w1 h1), h.go⟩⟩
theorem wx_skip {i : Nat} {o : Oper} (ho' : ops.toList[i]? = some o) (hl : l.contains i = false) (ha : aftB o l = true) (hw : Region.wanted o (yielded ops a.tmps) = false)
    (h : WXS P ops J n S (i :: l) (i :: lp) (a.put o.dst undef) w) : WXS P ops J (n + 1) S l lp a w := ⟨.inl ⟨i, o, undef, true, lget ho', hl, ha, by rw [hw, if_neg (by decide)], h.go⟩⟩
theorem wx_call {i : Nat} {dst : Option Tmp} {f : FuncId} {xs : Array Operand} {ats : Array TypeId} {ty : TypeId} {pos : String} {aft : Array Edge} {gd : Option (Nat × Bool)} (v : Value) (hst : ∀ w1 w', S w1 → Below w1.heap.size w1 w' → S w') (ho' : ops.toList[i]? = some ⟨dst, .call { callee := .value (.func f), args := xs, argTypes := ats }, ty, pos, aft, gd⟩) (hl : l.contains i = false) (ha : aftB ⟨dst, .call { callee := .value (.func f), args := xs, argTypes := ats }, ty, pos, aft, gd⟩ l = true)
    (hw : Region.wanted ⟨dst, .call { callee := .value (.func f), args := xs, argTypes := ats }, ty, pos, aft, gd⟩ (yielded ops a.tmps) = true) (hr : ∀ args w, (callFunc f args).run P w = .ok (.enter f args) w) (args : Array Value) (hx : #[] ++ xs.map a.eval ++ #[] = args)
    (hc : ∀ w1, S w1 → Calls P f args w1 fun e w' => e = .returned v ∧ Below w1.heap.size w1 w')
    (h : WXS P ops J n S (i :: l) lp (a.put dst v) w) : WXS P ops J (n + 1) S l lp a w := by
  subst hx
  exact ⟨.inl ⟨i, _, v, false, lget ho', hl, ha, by rw [if_pos hw]; exact fun w1 h1 => .inr ⟨f, _, by rw [execOp_call_go]; exact hr _ w1, (hc w1 h1).mono fun e w' h => ⟨h.1, hst w1 w' h1 h.2, h.2⟩⟩, h.go⟩⟩
def readyL (ops : Array Oper) (l : List Nat) : List Nat := (List.range ops.size).filter fun i => !l.contains i && (match ops[i]? with | some o => aftB o l | none => false)
theorem zx (i : Nat) {o : Oper} (v : Value) (ho' : ops.toList[i]? = some o) (hr : ∀ w1, S w1 → (execOp a.eval o).run P w1 = .ok (.value v) w1) (h : WXS P ops J n S (i :: l) lp (a.put o.dst v) w) (hl : l.contains i = false := by rfl) (ha : aftB o l = true := by kernel_rfl) (hw : Region.wanted o (yielded ops a.tmps) = true := by kernel_rfl) : WXS P ops J (n + 1) S l lp a w := wx_val v ho' hl ha hw hr h
theorem zq (i : Nat) {o : Oper} (v : Value) (ho' : ops.toList[i]? = some o) (hr : ∀ w1, (execOp a.eval o).run P w1 = .ok (.value v) w1) (h : WXS P ops J n S (i :: l) (i :: lp) (a.put o.dst v) w) (hl : l.contains i = false := by rfl) (ha : aftB o l = true := by kernel_rfl) (hw : Region.wanted o (yielded ops a.tmps) = true := by kernel_rfl) : WXS P ops J (n + 1) S l lp a w := wx_pure v ho' hl ha hw hr h
theorem zs (i : Nat) {o : Oper} (h : WXS P ops J n S (i :: l) (i :: lp) (a.put o.dst undef) w) (ho' : ops.toList[i]? = some o := by rfl) (hl : l.contains i = false := by rfl) (ha : aftB o l = true := by kernel_rfl) (hw : Region.wanted o (yielded ops a.tmps) = false := by kernel_rfl) : WXS P ops J (n + 1) S l lp a w := wx_skip ho' hl ha hw h
theorem zc {z : Base} {L : BL} (i : Nat) {dst : Option Tmp} {f : FuncId} {xs : Array Operand} {ats : Array TypeId} {ty : TypeId} {pos : String} {aft : Array Edge} {gd : Option (Nat × Bool)} (v : Value) (ho' : ops.toList[i]? = some ⟨dst, .call { callee := .value (.func f), args := xs, argTypes := ats }, ty, pos, aft, gd⟩) (hr : ∀ args w, (callFunc f args).run P w = .ok (.enter f args) w) (args : Array Value) (hc : ∀ w1, HA z L w1 → Calls P f args w1 fun e w' => e = .returned v ∧ Below w1.heap.size w1 w') (h : WXS P ops J n (HA z L) (i :: l) lp (a.put dst v) w) (hx : #[] ++ xs.map a.eval ++ #[] = args := by kernel_rfl) (hl : l.contains i = false := by rfl) (ha : aftB ⟨dst, .call { callee := .value (.func f), args := xs, argTypes := ats }, ty, pos, aft, gd⟩ l = true := by kernel_rfl) (hw : Region.wanted ⟨dst, .call { callee := .value (.func f), args := xs, argTypes := ats }, ty, pos, aft, gd⟩ (yielded ops a.tmps) = true := by kernel_rfl) : WXS P ops J (n + 1) (HA z L) l lp a w := wx_call v (fun _ _ h hb => HA.keep _ _ h hb) ho' hl ha hw hr args hx hc h
/-- an operation that changes something, from what is held on -/
structure EX (P : Program) (ops : Array Oper) (J : Act → World → Prop) (n : Nat) (S : World → Prop) (l lp : List Nat) (i : Nat) (a : Act) (w : World) : Prop where
  go : ∀ o, ops[i]? = some o → Region.wanted o (yielded ops a.tmps) = true ∧ ∀ w1, Below w.heap.size w w1 → S w1 →
      Oper.wp P o a w1 (fun a' w' => (∃ v, a' = a.put o.dst v) ∧ ∃ S', (barB ops i l lp = true ∨ S' = S) ∧ S' w' ∧ WXq P ops J n S' (i :: l) (i :: lp) a' w') (fun _ _ _ => False)
theorem wx_act (hr : ∀ i ∈ readyL ops l, EX P ops J n S l lp i a w) : WXS P ops J (n + 1) S l lp a w := by
  refine ⟨.inr fun j x hx hl ha => ?_⟩
  have hm : j ∈ readyL ops l := List.mem_filter.2 ⟨List.mem_range.2 (Array.getElem?_eq_some_iff.1 hx).1, by rw [hl, hx]; exact ha⟩
  exact (hr j hm).go x hx
theorem wx_one (i : Nat) (hr : readyL ops l = [i]) (h : EX P ops J n S l lp i a w) : WXS P ops J (n + 1) S l lp a w := wx_act fun j hj => by
  rw [hr] at hj
  obtain rfl := List.mem_singleton.1 hj
  exact h
variable {z : Base} {L : BL} {i : Nat}
/-- a call that changes something, where others may still read -/
theorem ex_callx {dst : Option Tmp} {f : FuncId} {xs : Array Operand} {ats : Array TypeId} {ty : TypeId} {pos : String} {aft : Array Edge} {gd : Option (Nat × Bool)} {R : World → Ending → World → Prop} (ho : ops.toList[i]? = some ⟨dst, .call { callee := .value (.func f), args := xs, argTypes := ats }, ty, pos, aft, gd⟩) (hw : Region.wanted ⟨dst, .call { callee := .value (.func f), args := xs, argTypes := ats }, ty, pos, aft, gd⟩ (yielded ops a.tmps) = true) (H : HA z L w)
    (hr : ∀ args w, (callFunc f args).run P w = .ok (.enter f args) w) (args : Array Value) (hx : #[] ++ xs.map a.eval ++ #[] = args) (hc : ∀ w1, HA z L w1 → Calls P f args w1 (R w1))
    (h : ∀ w1, HA z L w1 → ∀ e w', R w1 e w' → ∃ v, e = .returned v ∧ ∃ S', (barB ops i l lp = true ∨ S' = S) ∧ S' w' ∧ WXS P ops J n S' (i :: l) (i :: lp) (a.put dst v) w') : EX P ops J n S l lp i a w := ⟨fun x hx' => by
  rw [lget ho] at hx'
  cases hx'
  refine ⟨hw, fun w1 hb _ => ?_⟩
  have H0 := HA.keep _ _ H hb
  subst hx
  unfold Oper.wp
  rw [execOp_call_go, hr]
  refine (hc w1 H0).mono ?_
  intro e w' hR
  obtain ⟨v, rfl, S', h1, h2, hK⟩ := h w1 H0 e w' hR
  exact ⟨⟨v, rfl⟩, S', h1, h2, hK.go⟩⟩
end
end Go.Proofs.Ytiogegoepgkjlaa
