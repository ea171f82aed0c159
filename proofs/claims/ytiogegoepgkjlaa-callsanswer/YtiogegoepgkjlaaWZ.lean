/-
  Steps of this seat: calls of values and of methods; regions whose order is drawn.
-/
import Derived.Test.YtiogegoepgkjlaaSO
import Derived.Test.YtiogegoepgkjlaaGC
namespace Go.Proofs.Ytiogegoepgkjlaa
open Go Go.RowKit

section
variable {ops : Array Oper} {Q : Exit → Act → World → Prop} {a : Act} {rest : List Oper} {dst : Option Tmp} {ty : TypeId} {pos : String} {aft : Array Edge} {gd : Option (Nat × Bool)} {w w' : World}
/-- a call of a function that is a value, whatever holds behind it -/
theorem wl_callvx {f : FuncId} {x : Operand} {xs : Array Operand} {ats : Array TypeId} {cap args : Array Value} {R : Ending → World → Prop} (hw : Region.wanted ⟨dst, .call { callee := .value x, args := xs, argTypes := ats }, ty, pos, aft, gd⟩ (yielded ops a.tmps) = true)
    (hr : ∀ args w, (callFunc f args).run Try.prog w = .ok (.enter f args) w) (hx : a.eval x = .func (.func f) #[] cap) (ha : #[] ++ xs.map a.eval ++ cap = args) (hc : Calls Try.prog f args w R)
    (h : ∀ e w', R e w' → ∃ v, e = .returned v ∧ WL Try.prog ops Q rest (a.put dst v) w') : WL Try.prog ops Q (⟨dst, .call { callee := .value x, args := xs, argTypes := ats }, ty, pos, aft, gd⟩ :: rest) a w := by
  refine ⟨?_⟩
  unfold wpList
  rw [if_pos hw]
  refine .inl ?_
  unfold Oper.wp
  rw [run_callv hr hx ha]
  refine hc.mono ?_
  intro e w' hR
  obtain ⟨v, rfl, hv⟩ := h e w' hR
  exact hv.out
end
section
variable {P : Program} {ops : Array Oper} {S : World → Prop} {J : Act → World → Prop} {n : Nat} {l lp : List Nat} {a : Act} {w : World} {z : Base} {L : BL} {i : Nat}
theorem wx_two (i j : Nat) (hr : readyL ops l = [i, j]) (h : EX P ops J n S l lp i a w) (h2 : EX P ops J n S l lp j a w) : WXS P ops J (n + 1) S l lp a w := wx_act fun k hk => by
  rw [hr] at hk
  rcases List.mem_cons.1 hk with rfl | hk
  · exact h
  · obtain rfl := List.mem_singleton.1 hk
    exact h2
theorem wx_three (i j m : Nat) (hr : readyL ops l = [i, j, m]) (h : EX P ops J n S l lp i a w) (h2 : EX P ops J n S l lp j a w) (h3 : EX P ops J n S l lp m a w) : WXS P ops J (n + 1) S l lp a w := wx_act fun k hk => by
  rw [hr] at hk
  rcases List.mem_cons.1 hk with rfl | hk
  · exact h
  · rcases List.mem_cons.1 hk with rfl | hk
    · exact h2
    · obtain rfl := List.mem_singleton.1 hk
      exact h3
theorem ex_skipT {o : Oper} (ho : ops.toList[i]? = some o) (hw : Region.wanted o (yielded ops a.tmps) = true) (H : HA z L w)
    (h : ∀ w1, HA z L w1 → ∃ w', (execOp a.eval o).run P w1 = .ok .skip w' ∧ ∃ S', (barB ops i l lp = true ∨ S' = S) ∧ S' w' ∧ WXS P ops J n S' (i :: l) (i :: lp) (a.put o.dst undef) w') : EX P ops J n S l lp i a w := ⟨fun x hx => by
  rw [lget ho] at hx
  cases hx
  refine ⟨hw, fun w1 hb1 _ => ?_⟩
  obtain ⟨w', hr, S', h1, hS', hK⟩ := h w1 (HA.keep _ _ H hb1)
  unfold Oper.wp
  rw [hr]
  exact ⟨⟨_, rfl⟩, S', h1, hS', hK.go⟩⟩
/-- a change that answers a value, where others may still read -/
theorem ex_doT {o : Oper} (ho : ops.toList[i]? = some o) (hw : Region.wanted o (yielded ops a.tmps) = true) (H : HA z L w)
    (h : ∀ w1, HA z L w1 → ∃ v w', (execOp a.eval o).run P w1 = .ok (.value v) w' ∧ ∃ S', (barB ops i l lp = true ∨ S' = S) ∧ S' w' ∧ WXS P ops J n S' (i :: l) (i :: lp) (a.put o.dst v) w') : EX P ops J n S l lp i a w := ⟨fun x hx => by
  rw [lget ho] at hx
  cases hx
  refine ⟨hw, fun w1 hb1 _ => ?_⟩
  obtain ⟨v, w', hr, S', h1, hS', hK⟩ := h w1 (HA.keep _ _ H hb1)
  unfold Oper.wp
  rw [hr]
  exact ⟨⟨_, rfl⟩, S', h1, hS', hK.go⟩⟩
theorem ex_makeT {o : Oper} {c : Array Value} (ho : ops.toList[i]? = some o) (hw : Region.wanted o (yielded ops a.tmps) = true) (H : HA z L w) (t : TypeId) (f : Nat → Value)
    (hr : ∀ w, (execOp a.eval o).run P w = .ok (.value (f w.heap.size)) (w.alloc (.cells c t)))
    (h : ∀ q w', HA z ((q, t, c) :: L) w' → ∃ S', (barB ops i l lp = true ∨ S' = S) ∧ S' w' ∧ WXS P ops J n S' (i :: l) (i :: lp) (a.put o.dst (f q)) w') : EX P ops J n S l lp i a w := ⟨fun x hx => by
  rw [lget ho] at hx
  cases hx
  refine ⟨hw, fun w1 hb1 _ => ?_⟩
  obtain ⟨S', h1, hS', hK⟩ := h w1.heap.size _ ((HA.keep _ _ H hb1).make t c)
  unfold Oper.wp
  rw [hr]
  exact ⟨⟨_, rfl⟩, S', h1, hS', hK.go⟩⟩
theorem ex_callvx {dst : Option Tmp} {f : FuncId} {x : Operand} {xs : Array Operand} {ats : Array TypeId} {ty : TypeId} {pos : String} {aft : Array Edge} {gd : Option (Nat × Bool)} {cap args : Array Value} {R : World → Ending → World → Prop} {J : Act → World → Prop} (ho : ops.toList[i]? = some ⟨dst, .call { callee := .value x, args := xs, argTypes := ats }, ty, pos, aft, gd⟩) (hw : Region.wanted ⟨dst, .call { callee := .value x, args := xs, argTypes := ats }, ty, pos, aft, gd⟩ (yielded ops a.tmps) = true) (H : HA z L w)
    (hr : ∀ args w, (callFunc f args).run Try.prog w = .ok (.enter f args) w) (hx : a.eval x = .func (.func f) #[] cap) (ha : #[] ++ xs.map a.eval ++ cap = args) (hc : ∀ w1, HA z L w1 → Calls Try.prog f args w1 (R w1))
    (h : ∀ w1, HA z L w1 → ∀ e w', R w1 e w' → ∃ v, e = .returned v ∧ ∃ S', (barB ops i l lp = true ∨ S' = S) ∧ S' w' ∧ WXS Try.prog ops J n S' (i :: l) (i :: lp) (a.put dst v) w') : EX Try.prog ops J n S l lp i a w := ⟨fun x hx' => by
  rw [lget ho] at hx'
  cases hx'
  refine ⟨hw, fun w1 hb _ => ?_⟩
  have H0 := HA.keep _ _ H hb
  unfold Oper.wp
  rw [run_callv hr hx ha]
  refine (hc w1 H0).mono ?_
  intro e w' hR
  obtain ⟨v, rfl, S', h1, h2, hK⟩ := h w1 H0 e w' hR
  exact ⟨⟨v, rfl⟩, S', h1, h2, hK.go⟩⟩
end
/-- a part of a block is read -/
theorem run_load_part {ρ : Operand → Value} {x : Operand} {w : World} {dst : Option Tmp} {T ty : TypeId} {pos : String} {aft : Array Edge} {gd : Option (Nat × Bool)} {q off : Nat} {t : TypeId} {c d : Array Value} {D : TypeDesc} (hx : ρ x = .pointer (some ⟨q, off, none⟩)) (h : Blk w q t c) (hu : Try.prog.underlying T = some D) (hd : D.isRow = true) (hi : (Try.prog.info? T).map (·.size) = some d.size) (hc : ∀ j, j < d.size → c[off + j]? = d[j]?) :
    (execOp ρ ⟨dst, .load T x, ty, pos, aft, gd⟩).run Try.prog w = .ok (.value (.agg d)) w := by
  have hr : w.rangeAt q off d.toList := fun j v hv => by
    have hj : j < d.size := by
      have := (List.getElem?_eq_some_iff.1 hv).1
      simpa using this
    rw [h.cell (off + j), hc j hj]
    simpa using hv
  simp only [execOp, hx, Instr.loadAt, Instr.sureAddr, Sem.run_bind, Sem.run_pure, Result.andThen_ok, run_loadVar_mid w q off T d.toList D hr hu hd (by simpa using hi)]
end Go.Proofs.Ytiogegoepgkjlaa
