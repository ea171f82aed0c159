/-
  Maps, rows that grow, calls told by what holds.
-/
import Derived.Test.YtiogegoepgkjlaaTB
import Derived.MapKept
import Derived.Laws.StructEq
namespace Go.Proofs.Ytiogegoepgkjlaa
open Go.RowKit

section
variable {P : Program} {ops : Array Oper} {Q : Exit → Act → World → Prop} {a : Act} {rest : List Oper} {dst : Option Tmp} {ty : TypeId} {pos : String} {aft : Array Edge} {gd : Option (Nat × Bool)} {w w' : World}
/-- any operation -/
theorem wl_any {o : Oper} {v : Value} (hw : Region.wanted o (yielded ops a.tmps) = true) (hr : (execOp a.eval o).run P w = .ok (.value v) w') (h : WL P ops Q rest (a.put o.dst v) w') : WL P ops Q (o :: rest) a w := by
  refine ⟨?_⟩
  unfold wpList
  rw [if_pos hw]
  refine .inl ?_
  unfold Oper.wp
  rw [hr]
  exact h.out
/-- a call, whatever holds behind it -/
theorem wl_callx {f : FuncId} {xs : Array Operand} {ats : Array TypeId} {R : Ending → World → Prop} (hw : Region.wanted ⟨dst, .call { callee := .value (.func f), args := xs, argTypes := ats }, ty, pos, aft, gd⟩ (yielded ops a.tmps) = true)
    (hr : ∀ args w, (callFunc f args).run P w = .ok (.enter f args) w) (args : Array Value) (ha : #[] ++ xs.map a.eval ++ #[] = args) (hc : Calls P f args w R)
    (h : ∀ e w', R e w' → ∃ v, e = .returned v ∧ WL P ops Q rest (a.put dst v) w') : WL P ops Q (⟨dst, .call { callee := .value (.func f), args := xs, argTypes := ats }, ty, pos, aft, gd⟩ :: rest) a w := by
  refine ⟨?_⟩
  unfold wpList
  rw [if_pos hw]
  refine .inl ?_
  unfold Oper.wp
  rw [execOp_call_go, ha, hr]
  refine hc.mono ?_
  intro e w' hR
  obtain ⟨v, rfl, hv⟩ := h e w' hR
  exact hv.out
end
section
variable {z : Base} {L L' : List (Nat × TypeId × Array Value)} {w w' : World}
theorem HA.perm (h : HA z L w) (hp : L.Perm L') : HA z L' w := ⟨h.old, fun x hx => h.blk x (hp.symm.subset hx), fun x hx => h.own x (hp.symm.subset hx), (hp.map _).nodup_iff.1 h.nd⟩
theorem HA.sub (h : HA z L w) (hp : L'.Sublist L) : HA z L' w := ⟨h.old, fun x hx => h.blk x (hp.subset hx), fun x hx => h.own x (hp.subset hx), (hp.map _).nodup h.nd⟩
end
/-! maps -/
/-! texts as keys -/
theorem bb_eq (s t : ByteArray) : (s == t) = decide (s = t) := by
  by_cases h : s = t
  · rw [decide_eq_true h]; exact (MapKept.bytes_beq s t).2 h
  · rw [decide_eq_false h]; exact Bool.eq_false_iff.2 fun e => h ((MapKept.bytes_beq s t).1 e)
/-! ways of making as keys -/
end Go.Proofs.Ytiogegoepgkjlaa
