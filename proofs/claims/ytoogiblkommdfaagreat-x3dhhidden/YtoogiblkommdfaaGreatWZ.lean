/-
  Steps of this seat: calls of values and of methods; regions whose order is drawn.
-/
import Derived.Test.YtoogiblkommdfaaGreatSO
import Derived.Test.YtoogiblkommdfaaGreatPA
namespace Go.Proofs.YtoogiblkommdfaaGreat
open Go Go.RowKit

section
variable {ops : Array Oper} {Q : Exit → Act → World → Prop} {a : Act} {rest : List Oper} {dst : Option Tmp} {ty : TypeId} {pos : String} {aft : Array Edge} {gd : Option (Nat × Bool)} {w w' : World}
/-- a call of a method of what lies behind an interface -/
theorem wl_invoke {f : FuncId} {x : Operand} {T : TypeId} {rv : Value} {nm : String} {xs : Array Operand} {ats : Array TypeId} {args : Array Value} {R : Ending → World → Prop}
    (hw : Region.wanted ⟨dst, .call { callee := .invoke x nm, args := xs, argTypes := ats }, ty, pos, aft, gd⟩ (yielded ops a.tmps) = true)
    (hr : ∀ w, (callMethod (.iface T rv) nm args).run Tryz.prog w = .ok (.enter f (#[rv] ++ args)) w) (hx : a.eval x = .iface T rv) (ha : xs.map a.eval = args) (hc : Calls Tryz.prog f (#[rv] ++ args) w R)
    (h : ∀ e w', R e w' → ∃ v, e = .returned v ∧ WL Tryz.prog ops Q rest (a.put dst v) w') : WL Tryz.prog ops Q (⟨dst, .call { callee := .invoke x nm, args := xs, argTypes := ats }, ty, pos, aft, gd⟩ :: rest) a w := by
  have hrun : (execOp a.eval ⟨dst, .call { callee := .invoke x nm, args := xs, argTypes := ats }, ty, pos, aft, gd⟩).run Tryz.prog w = .ok (.enter f (#[rv] ++ args)) w := by
    simp only [execOp, resolve, invoke, Sem.run_bind, Sem.run_pure, Result.andThen_ok]
    simp only [hx, ha]
    have e0 : (#[Value.iface T rv] ++ args)[0]? = some (Value.iface T rv) := by
      rw [← Array.getElem?_toList, Array.toList_append]
      rfl
    have e1 : (#[Value.iface T rv] ++ args).extract 1 = args := by
      apply Array.ext'
      rw [Array.toList_extract, Array.toList_append]
      simp [List.extract_eq_take_drop]
      exact List.take_of_length_le (by simp)
    rw [e0, e1]
    exact hr w
  refine ⟨?_⟩
  unfold wpList
  rw [if_pos hw]
  refine .inl ?_
  unfold Oper.wp
  rw [hrun]
  refine hc.mono ?_
  intro e w' hR
  obtain ⟨v, rfl, hv⟩ := h e w' hR
  exact hv.out
end
section
variable {P : Program} {ops : Array Oper} {S : World → Prop} {J : Act → World → Prop} {n : Nat} {l lp : List Nat} {a : Act} {w : World} {z : Base} {L : BL} {i : Nat}
theorem wx_two (i j : Nat) (hr : readyL ops l = [i, j]) (h : EX P ops J n S l lp i a w) (h2 : EX P ops J n S l lp j a w) : WXS P ops J (n + 1) S l lp a w := wx_act fun k hk => by
  rw [hr] at hk
  rcases List.mem_cons.1 hk with rfl | hk
  · exact h
  · obtain rfl := List.mem_singleton.1 hk
    exact h2
theorem wx_three (i j m : Nat) (hr : readyL ops l = [i, j, m]) (h : EX P ops J n S l lp i a w) (h2 : EX P ops J n S l lp j a w) (h3 : EX P ops J n S l lp m a w) : WXS P ops J (n + 1) S l lp a w := wx_act fun k hk => by
  rw [hr] at hk
  rcases List.mem_cons.1 hk with rfl | hk
  · exact h
  · rcases List.mem_cons.1 hk with rfl | hk
    · exact h2
    · obtain rfl := List.mem_singleton.1 hk
      exact h3
theorem ex_skipT {o : Oper} (ho : ops.toList[i]? = some o) (hw : Region.wanted o (yielded ops a.tmps) = true) (H : HA z L w)
    (h : ∀ w1, HA z L w1 → ∃ w', (execOp a.eval o).run P w1 = .ok .skip w' ∧ ∃ S', (barB ops i l lp = true ∨ S' = S) ∧ S' w' ∧ WXS P ops J n S' (i :: l) (i :: lp) (a.put o.dst undef) w') : EX P ops J n S l lp i a w := ⟨fun x hx => by
  rw [lget ho] at hx
  cases hx
  refine ⟨hw, fun w1 hb1 _ => ?_⟩
  obtain ⟨w', hr, S', h1, hS', hK⟩ := h w1 (HA.keep _ _ H hb1)
  unfold Oper.wp
  rw [hr]
  exact ⟨⟨_, rfl⟩, S', h1, hS', hK.go⟩⟩
/-- a change that answers a value, where others may still read -/
theorem ex_doT {o : Oper} (ho : ops.toList[i]? = some o) (hw : Region.wanted o (yielded ops a.tmps) = true) (H : HA z L w)
    (h : ∀ w1, HA z L w1 → ∃ v w', (execOp a.eval o).run P w1 = .ok (.value v) w' ∧ ∃ S', (barB ops i l lp = true ∨ S' = S) ∧ S' w' ∧ WXS P ops J n S' (i :: l) (i :: lp) (a.put o.dst v) w') : EX P ops J n S l lp i a w := ⟨fun x hx => by
  rw [lget ho] at hx
  cases hx
  refine ⟨hw, fun w1 hb1 _ => ?_⟩
  obtain ⟨v, w', hr, S', h1, hS', hK⟩ := h w1 (HA.keep _ _ H hb1)
  unfold Oper.wp
  rw [hr]
  exact ⟨⟨_, rfl⟩, S', h1, hS', hK.go⟩⟩
theorem ex_makeT {o : Oper} {c : Array Value} (ho : ops.toList[i]? = some o) (hw : Region.wanted o (yielded ops a.tmps) = true) (H : HA z L w) (t : TypeId) (f : Nat → Value)
    (hr : ∀ w, (execOp a.eval o).run P w = .ok (.value (f w.heap.size)) (w.alloc (.cells c t)))
    (h : ∀ q w', HA z ((q, t, c) :: L) w' → ∃ S', (barB ops i l lp = true ∨ S' = S) ∧ S' w' ∧ WXS P ops J n S' (i :: l) (i :: lp) (a.put o.dst (f q)) w') : EX P ops J n S l lp i a w := ⟨fun x hx => by
  rw [lget ho] at hx
  cases hx
  refine ⟨hw, fun w1 hb1 _ => ?_⟩
  obtain ⟨S', h1, hS', hK⟩ := h w1.heap.size _ ((HA.keep _ _ H hb1).make t c)
  unfold Oper.wp
  rw [hr]
  exact ⟨⟨_, rfl⟩, S', h1, hS', hK.go⟩⟩
end
section
variable {w0 w w' : World} {M : ML} {p : Pr} {A : List Ent} {n : Nat} {L : BL}
theorem PH.kit (h : PH w0 M p A n L w) : w.cell? ⟨p.q, 0, none⟩ = some (.iface 114 (.agg #[pt p.t.q])) := by
  obtain ⟨jv, hb⟩ := h.blk
  exact (hb.cell 0).trans rfl
end
theorem cell_lt {w : World} {a : Addr} {v : Value} (h : w.cell? a = some v) : a.block < w.heap.size := by
  rcases Nat.lt_or_ge a.block w.heap.size with h' | h'
  · exact h'
  · unfold World.cell? at h
    simp [Array.getElem?_eq_none h'] at h
theorem got {w w' : World} {a : Addr} {v : Value} (hb : Below w.heap.size w w') (h : w.cell? a = some v) : w'.cell? a = some v := (hb.cell (cell_lt h)).trans h
/-- a part of a block is read -/
theorem run_load_part {ρ : Operand → Value} {x : Operand} {w : World} {dst : Option Tmp} {T ty : TypeId} {pos : String} {aft : Array Edge} {gd : Option (Nat × Bool)} {q off : Nat} {t : TypeId} {c d : Array Value} {D : TypeDesc} (hx : ρ x = .pointer (some ⟨q, off, none⟩)) (h : Blk w q t c) (hu : Tryz.prog.underlying T = some D) (hd : D.isRow = true) (hi : (Tryz.prog.info? T).map (·.size) = some d.size) (hc : ∀ j, j < d.size → c[off + j]? = d[j]?) :
    (execOp ρ ⟨dst, .load T x, ty, pos, aft, gd⟩).run Tryz.prog w = .ok (.value (.agg d)) w := by
  have hr : w.rangeAt q off d.toList := fun j v hv => by
    have hj : j < d.size := by
      have := (List.getElem?_eq_some_iff.1 hv).1
      simpa using this
    rw [h.cell (off + j), hc j hj]
    simpa using hv
  simp only [execOp, hx, Instr.loadAt, Instr.sureAddr, Sem.run_bind, Sem.run_pure, Result.andThen_ok, run_loadVar_mid w q off T d.toList D hr hu hd (by simpa using hi)]
end Go.Proofs.YtoogiblkommdfaaGreat
