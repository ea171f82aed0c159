/-
  The closures of modulo and of downward.
-/
import Derived.Test.YtdblnbcclfenkaaDoorMoved
import Derived.RangeFuncNested
import Derived.RangeFuncBound
import Derived.RangeFuncCalls
import Derived.RangeFuncLeaves
import Derived.Shelf.Abstract
import Derived.Shelf.RegionOpen
import Derived.OwnWalkIn
import Derived.TacticsInMore
import Derived.LoopNIn
import Derived.LoopIn
namespace Go.Proofs.YtdblnbcclfenkaaDoor
open Go.RowKit Num Go.Shelf
attribute [local go_sem] Oper.semAt_some

section
variable {P : Program} {ops : Array Oper} {Q : Exit → Act → World → Prop} {a : Act} {w : World} {rest : List Oper} {dst : Option Tmp} {ty ty' : TypeId} {pos : String} {aft : Array Edge} {gd : Option (Nat × Bool)}
theorem wl_callb {f : FuncId} {xs : Array Operand} {ats : Array TypeId} {R : Ending → World → Prop} (hw : Region.wanted ⟨dst, .call { callee := .value (.func f), args := xs, argTypes := ats }, ty, pos, aft, gd⟩ (yielded ops a.tmps) = true)
    (hr : ∀ args w, (callFunc f args).run P w = .ok (.enter f args) w) (args : Array Value) (ha : #[] ++ xs.map a.eval ++ #[] = args) (hc : Calls P f args w R)
    (h : ∀ e w', R e w' → ∃ v, e = .returned v ∧ WL P ops Q rest (a.put dst v) w') : WL P ops Q (⟨dst, .call { callee := .value (.func f), args := xs, argTypes := ats }, ty, pos, aft, gd⟩ :: rest) a w := by
  refine ⟨?_⟩
  unfold wpList
  rw [if_pos hw]
  refine .inl ?_
  unfold Oper.wp
  rw [execOp_call_go, ha, hr]
  refine hc.mono ?_
  intro e w' he
  obtain ⟨v, rfl, hl⟩ := h e w' he
  exact hl.out
theorem wl_world {o : Oper} {w' : World} (v : Value) (hw : Region.wanted o (yielded ops a.tmps) = true) (hr : (execOp a.eval o).run P w = .ok (.value v) w') (h : WL P ops Q rest (a.put o.dst v) w') : WL P ops Q (o :: rest) a w := by
  refine ⟨?_⟩
  unfold wpList
  rw [if_pos hw]
  refine .inl ?_
  unfold Oper.wp
  rw [hr]
  exact h.out
theorem wl_skips {o : Oper} {w' : World} (hw : Region.wanted o (yielded ops a.tmps) = true) (hr : (execOp a.eval o).run P w = .ok .skip w') (h : WL P ops Q rest (a.put o.dst undef) w') : WL P ops Q (o :: rest) a w := by
  refine ⟨?_⟩
  unfold wpList
  rw [if_pos hw]
  refine .inl ?_
  unfold Oper.wp
  rw [hr]
  exact h.out
end
/-- 32 bits as a rune, and back -/
def lowb (z : Int) : Nat := (z % 4294967296).toNat
theorem lowb_lt (z : Int) : lowb z < 2 ^ 32 := by unfold lowb; omega
theorem run_bits {ρ : Operand → Value} {x : Operand} {z : Int} {w : World} {dst : Option Tmp} {ty : TypeId} {pos : String} {aft : Array Edge} {gd : Option (Nat × Bool)} (hx : ρ x = .int .i32 z) :
    (execOp ρ ⟨dst, .convert 21 49 x, ty, pos, aft, gd⟩).run Tryd.prog w = .ok (.value (iN .u32 (lowb z))) w := by
  have h : IntKind.u32.wrap z = (lowb z : Int) := by unfold lowb; rw [IntKind.wrap_u32']; omega
  simp only [execOp, hx, iN]
  simpa [go_sem, Tryd.underlying21, Tryd.underlying49] using h

theorem grown_set {w w1 : World} {q : Nat} {vs : List Value} (hb : Below w.heap.size w w1) : w.grownBy (w1.setCells q 0 vs) (some q) := by
  have key : ∀ (vs : List Value) (o : Nat) (w2 : World), w.grownBy w2 (some q) → w.grownBy (w2.setCells q o vs) (some q) := by
    intro vs
    induction vs with
    | nil => intro o w2 h; exact h
    | cons v r ih =>
      intro o w2 h
      refine ih (o + 1) _ ⟨h.os, h.tape, h.output, by simpa using h.size, fun k hk hne => ?_⟩
      rw [Below.heap_setCell w2 ⟨q, o, none⟩ v k (fun e => hne (by rw [e]))]
      exact h.block k hk hne
  exact key vs 0 w1 ⟨hb.os, hb.tape, hb.output, hb.size, fun k hk _ => hb.block k hk⟩

set_option maxRecDepth 100000 in
theorem move_any (q v : Nat) (z : Int) (hv : v < Lq) (w : World) (VV : Vars w) (hB : Blk w q 34 (el v)) :
    Calls Tryd.prog 33 #[.int .i32 z, .pointer (some ⟨q, 0, none⟩)] w fun e w' => (∃ x, e = .returned x) ∧ Blk w' q 34 (el ((v * 2 ^ 32 + lowb z) % Lq)) ∧ w.grownBy w' (some q) := by
  go_enter Tryd.func33, Tryd.ntmps33
  refine wl_region ?_
  refine wl_val (arr v) (by kernel_rfl) (run_load_blk (by kernel_rfl) hB Tryd.underlying34 rfl info34) ?_
  refine wl_val (.int .i32 z) (by kernel_rfl) (by kernel_rfl) ?_
  refine wl_val (iN .u32 (lowb z)) (by kernel_rfl) (run_bits (by kernel_rfl)) ?_
  refine wl_callb (by kernel_rfl) enter34 #[arr v, iN .u32 (lowb z)] (by kernel_rfl) (moved_any v (lowb z) hv (lowb_lt z) w VV) ?_
  rintro e w1 ⟨rfl, hb⟩
  refine ⟨_, rfl, ?_⟩
  have hB1 := hB.keep hb
  refine wl_skips (by kernel_rfl) (run_store_blk (c' := el ((v * 2 ^ 32 + lowb z) % Lq)) (by kernel_rfl) (by kernel_rfl) hB1 (el_sz _ _) info34 (one_el _)) ?_
  refine wl_nil ?_
  exact ⟨rfl, .tuple #[], by kernel_rfl, ⟨_, rfl⟩, hB1.whole (el_sz _ _), grown_set hb⟩

set_option maxRecDepth 100000 in
theorem downward_any (n : Nat) (w : World) :
    Calls Tryd.prog 35 #[arr n] w fun e w' => ∃ q, e = .returned (.func (.func 43) #[] #[.pointer (some ⟨q, 0, none⟩)]) ∧ q = w.heap.size ∧ w' = w.alloc (.cells (el n) 34) := by
  go_enter Tryd.func35, Tryd.ntmps35
  refine wp_seq ?_
  refine wl_region ?_
  refine wl_world (.pointer (some ⟨w.heap.size, 0, none⟩)) (by kernel_rfl) (run_box34 (c := el n) (by kernel_rfl)) ?_
  refine wl_val .nilFunc (by kernel_rfl) (by kernel_rfl) ?_
  refine wl_nil ?_
  refine then_at (F := ⟨#[arr n, .pointer (some ⟨w.heap.size, 0, none⟩), .nilFunc, undef], []⟩) (by kernel_rfl) ?_
  refine wp_seq ?_
  refine wl_region ?_
  refine wl_val (.func (.func 43) #[] #[.pointer (some ⟨w.heap.size, 0, none⟩)]) (by kernel_rfl) (by kernel_rfl) ?_
  refine wl_val (.func (.func 43) #[] #[.pointer (some ⟨w.heap.size, 0, none⟩)]) (by kernel_rfl) (by kernel_rfl) ?_
  refine wl_nil ?_
  refine then_at (F := ⟨#[arr n, .pointer (some ⟨w.heap.size, 0, none⟩), .func (.func 43) #[] #[.pointer (some ⟨w.heap.size, 0, none⟩)], .func (.func 43) #[] #[.pointer (some ⟨w.heap.size, 0, none⟩)]], []⟩) (by kernel_rfl) ?_
  refine wp_ret ?_
  exact bodyPost_ret (v := .func (.func 43) #[] #[.pointer (some ⟨w.heap.size, 0, none⟩)]) (by kernel_rfl) rfl ⟨_, rfl, rfl, rfl⟩
end Go.Proofs.YtdblnbcclfenkaaDoor
