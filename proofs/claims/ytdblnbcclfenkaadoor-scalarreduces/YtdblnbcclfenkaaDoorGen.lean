/-
  Drawn regions that put or fill; loops by a measure; counters.
-/
import Derived.Test.YtdblnbcclfenkaaDoorEl
import Derived.Test.YtdblnbcclfenkaaDoorOps
import Derived.Test.YtdblnbcclfenkaaDoorOld
import Derived.Laws.IdiomCopy
namespace Go.Proofs.YtdblnbcclfenkaaDoor
open Go.RowKit Num

/-- a region that draws its order and puts one cell, by number i0 -/
def GP (w0 : World) (L : List (Nat × TypeId × Array Value)) (i0 j q : Nat) (t : TypeId) (c : Array Value) (_ : Nat → Nat) (d : Nat → Bool) (w : World) : Prop := HA w0 (if d i0 = true then L.set j (q, t, c) else L) w
section
variable {ops : Array Oper} {Q : Exit → Act → World → Prop} {F : (Nat → Nat) → Act} {md : Region.Mode} {i i0 j q : Nat} {dst : Option Tmp} {T ty : TypeId} {pos : String} {aft : Array Edge} {gd : Option (Nat × Bool)}
  {w0 : World} {L : List (Nat × TypeId × Array Value)} {t : TypeId} {c : Array Value}
theorem GP.keep {g : Nat → Nat} {d : Nat → Bool} {w : World} (h : GP w0 L i0 j q t c g d w) (hi : i ≠ i0) : GP w0 L i0 j q t c g (up d i true) w := by
  unfold GP
  rw [up_ne _ _ (Ne.symm hi)]
  exact h
theorem GP.get {g : Nat → Nat} {d : Nat → Bool} {w : World} (h : GP w0 L i0 j q t c g d w) (m : Nat) (hm : j ≠ m) {x : Nat × TypeId × Array Value} (hx : L[m]? = some x) : Blk w x.1 x.2.1 x.2.2 := by
  unfold GP at h
  split at h
  · exact h.get m (by rw [List.getElem?_set_ne hm]; exact hx)
  · exact h.get m hx
theorem gp_plain {o : Oper} {v : Value} (hi : i ≠ i0) (hw : ∀ g, Region.wanted o (yielded ops (F g).tmps) = true) (hp : ∀ g, (F g).put o.dst v = F g)
    (hr : ∀ g w, (execOp (F g).eval o).run Tryd.prog w = .ok (.value v) w) : OpGhost Tryd.prog md ops Q (GP w0 L i0 j q t c) F i o :=
  OpGhost.take (v := fun _ => v) hw hp (fun g _ w h _ => ⟨hr g w, h.keep hi⟩)
theorem gp_cell {x : Operand} {v : Value} {e : Nat × TypeId × Array Value} (m : Nat) (hm : j ≠ m) (hx : L[m]? = some e) (hi : i ≠ i0) (off : Nat) (hv : e.2.2[off]? = some v) (hg : ∀ w, (isAgg T).run Tryd.prog w = .ok false w) (hw : ∀ g, Region.wanted ⟨dst, .load T x, ty, pos, aft, gd⟩ (yielded ops (F g).tmps) = true) (hp : ∀ g, (F g).put dst v = F g)
    (ha : ∀ g, (F g).eval x = .pointer (some ⟨e.1, off, none⟩)) : OpGhost Tryd.prog md ops Q (GP w0 L i0 j q t c) F i ⟨dst, .load T x, ty, pos, aft, gd⟩ :=
  OpGhost.take (v := fun _ => v) hw hp (fun g _ _ h _ => ⟨run_load1 hg (ha g) (((h.get m hm hx).cell off).trans hv), h.keep hi⟩)
theorem gp_put {x y : Operand} {k : IntKind} {z : Int} {c0 : Array Value} {off : Nat} (hL : L[j]? = some (q, t, c0)) (hoff : off < c0.size) (hc : c0.setIfInBounds off (.int k z) = c) (hs : ∀ w, (sizeOf T).run Tryd.prog w = .ok 1 w)
    (hw : ∀ g, Region.wanted ⟨dst, .store T x y, ty, pos, aft, gd⟩ (yielded ops (F g).tmps) = true) (hp : ∀ g, (F g).put dst undef = F g) (hx : ∀ g, (F g).eval x = .pointer (some ⟨q, off, none⟩)) (hy : ∀ g, (F g).eval y = .int k z) :
    OpGhost Tryd.prog md ops Q (GP w0 L i0 j q t c) F i0 ⟨dst, .store T x y, ty, pos, aft, gd⟩ :=
  OpGhost.skips (W := fun _ w => w.setCell ⟨q, off, none⟩ (.int k z)) hw hp (fun g d w h hd _ => by
    unfold GP at h ⊢
    rw [hd, if_neg (by decide)] at h
    rw [up_at, if_pos rfl]
    refine ⟨run_store1 hs (hx g) (hy g) (by rw [(h.get j hL).cell off]; simp [hoff]) ((h.get j hL).free off), ?_⟩
    have := h.put j hL off (.int k z)
    rw [hc] at this
    exact this)
theorem GP.start {g : Nat → Nat} {d : Nat → Bool} {w : World} (h : HA w0 L w) (hd : d i0 = false) : GP w0 L i0 j q t c g d w := by
  unfold GP
  rw [hd]
  exact h
end
/-- a loop whose measure gets less -/
theorem rounds_more {P : Program} {Q : Exit → Act → World → Prop} {c : Code} : ∀ (n : Nat) (a : Act) (w : World), Code.rounds P c Q n a w → Code.rounds P c Q (n + 1) a w
  | 0, _, _, h => h.elim
  | n + 1, a, w, h => by
    rw [rounds_succ] at h ⊢
    exact Code.wp_mono (fun e a w he => by cases e <;> first | exact rounds_more n a w he | exact he) h
theorem rounds_le {P : Program} {Q : Exit → Act → World → Prop} {c : Code} {n m : Nat} (h : n ≤ m) {a : Act} {w : World} (hr : Code.rounds P c Q n a w) : Code.rounds P c Q m a w := by
  induction h with
  | refl => exact hr
  | step _ ih => exact rounds_more _ _ _ ih
theorem wp_while {P : Program} {Q : Exit → Act → World → Prop} {c : Code} (I : Nat → Act → World → Prop) (m : Nat) {a : Act} {w : World} (h0 : I m a w)
    (round : ∀ m a w, I m a w → c.wp P (Exit.then (fun a' w' => ∃ m', m' < m ∧ I m' a' w') Q) a w) : (Code.loop c).wp P Q a w := by
  have key : ∀ m a w, I m a w → Code.rounds P c Q (m + 1) a w := by
    intro m
    induction m using Nat.strongRecOn with
    | ind m ih =>
      intro a w hI
      rw [rounds_succ]
      refine Code.wp_mono (fun e a w he => ?_) (round m a w hI)
      cases e with
      | normal =>
        obtain ⟨m', hm, h'⟩ := he
        exact rounds_le hm (ih m' hm a w h')
      | _ => exact he
  exact wp_loop_rounds (m + 1) (key m a w h0)
/-- number i0 fills block q, which number i1 has read -/
structure GF (w0 : World) (L : List (Nat × TypeId × Array Value)) (i0 i1 j q : Nat) (t : TypeId) (c : Array Value) (g : Nat → Nat) (d : Nat → Bool) (w : World) : Prop where
  held : HA w0 (if d i0 = true then L.set j (q, t, c) else L) w
  seen : d i0 = true → d i1 = true
section
variable {ops : Array Oper} {Q : Exit → Act → World → Prop} {F : (Nat → Nat) → Act} {i i0 i1 j q : Nat} {dst : Option Tmp} {T ty : TypeId} {pos : String} {aft : Array Edge} {gd : Option (Nat × Bool)}
  {w0 : World} {L : List (Nat × TypeId × Array Value)} {t : TypeId} {c : Array Value}
theorem GF.keep {g : Nat → Nat} {d : Nat → Bool} {w w' : World} (h : GF w0 L i0 i1 j q t c g d w) (hi : i ≠ i0) (hb : Below w.heap.size w w') : GF w0 L i0 i1 j q t c g (up d i true) w' :=
  ⟨by rw [up_ne _ _ (Ne.symm hi)]; exact h.held.keep _ _ hb, fun h0 => by
    rw [up_ne _ _ (Ne.symm hi)] at h0
    by_cases hii : i1 = i
    · rw [hii]; exact up_at _ _ _
    · rw [up_ne _ _ hii]; exact h.seen h0⟩
theorem gf_plain {o : Oper} {v : Value} (hi : i ≠ i0) (hw : ∀ g, Region.wanted o (yielded ops (F g).tmps) = true) (hp : ∀ g, (F g).put o.dst v = F g)
    (hr : ∀ g w, (execOp (F g).eval o).run Tryd.prog w = .ok (.value v) w) : OpGhost Tryd.prog .any ops Q (GF w0 L i0 i1 j q t c) F i o :=
  OpGhost.take (v := fun _ => v) hw hp (fun g _ w h _ => ⟨hr g w, h.keep hi (Below.refl _ w)⟩)
/-- the load that comes ahead of the filling -/
theorem gf_load {x : Operand} {D : TypeDesc} {e : Nat × TypeId × Array Value} (m : Nat) (hm : L[m]? = some e) (hi : i1 ≠ i0)
    (hw : ∀ g, Region.wanted ⟨dst, .load T x, ty, pos, aft, gd⟩ (yielded ops (F g).tmps) = true) (hp : ∀ g, (F g).put dst (.agg e.2.2) = F g) (hx : ∀ g, (F g).eval x = .pointer (some ⟨e.1, 0, none⟩))
    (hu : Tryd.prog.underlying T = some D) (hd : D.isRow = true) (hz : (Tryd.prog.info? T).map (·.size) = some e.2.2.size) :
    OpGhost Tryd.prog .any ops Q (GF w0 L i0 i1 j q t c) F i1 ⟨dst, .load T x, ty, pos, aft, gd⟩ := fun g d w h hdi _ => by
  rw [if_pos (hw g)]
  unfold Oper.wp
  have h0 : d i0 = false := by
    cases h0 : d i0 with
    | false => rfl
    | true => rw [h.seen h0] at hdi; cases hdi
  have hH := h.held
  rw [h0, if_neg (by decide)] at hH
  rw [run_load_blk (hx g) (hH.get m hm) hu hd hz]
  exact ⟨g i1, by rw [up_self]; exact hp g, by rw [up_self]; exact h.keep hi (Below.refl _ w)⟩
/-- a load from another block -/
theorem gf_load2 {x : Operand} {D : TypeDesc} {e : Nat × TypeId × Array Value} (m : Nat) (hjm : j ≠ m) (hm : L[m]? = some e) (hi : i ≠ i0)
    (hw : ∀ g, Region.wanted ⟨dst, .load T x, ty, pos, aft, gd⟩ (yielded ops (F g).tmps) = true) (hp : ∀ g, (F g).put dst (.agg e.2.2) = F g) (hx : ∀ g, (F g).eval x = .pointer (some ⟨e.1, 0, none⟩))
    (hu : Tryd.prog.underlying T = some D) (hd : D.isRow = true) (hz : (Tryd.prog.info? T).map (·.size) = some e.2.2.size) :
    OpGhost Tryd.prog .any ops Q (GF w0 L i0 i1 j q t c) F i ⟨dst, .load T x, ty, pos, aft, gd⟩ :=
  OpGhost.take (v := fun _ => .agg e.2.2) hw hp (fun g d w h _ => by
    have hB : Blk w e.1 e.2.1 e.2.2 := by
      have hH := h.held
      split at hH
      · exact hH.get m (by rw [List.getElem?_set_ne hjm]; exact hm)
      · exact hH.get m hm
    exact ⟨run_load_blk (hx g) hB hu hd hz, h.keep hi (Below.refl _ w)⟩)
theorem gf_call {f : FuncId} {xs : Array Operand} {ats : Array TypeId} {v : Value} (hi : i ≠ i0)
    (hw : ∀ g, Region.wanted ⟨dst, .call { callee := .value (.func f), args := xs, argTypes := ats }, ty, pos, aft, gd⟩ (yielded ops (F g).tmps) = true) (hp : ∀ g, (F g).put dst v = F g)
    (hr : ∀ args w, (callFunc f args).run Tryd.prog w = .ok (.enter f args) w) (args : Array Value) (ha : ∀ g, #[] ++ xs.map (F g).eval ++ #[] = args)
    (hc : ∀ w, Calls Tryd.prog f args w fun e w' => e = .returned v ∧ Below w.heap.size w w') :
    OpGhost Tryd.prog .any ops Q (GF w0 L i0 i1 j q t c) F i ⟨dst, .call { callee := .value (.func f), args := xs, argTypes := ats }, ty, pos, aft, gd⟩ :=
  OpGhost.call (v := fun _ => v) (args := fun _ => args) hw hp (fun g w => by rw [execOp_call_go, ha g]; exact hr _ w) (fun _ _ w hS _ => (hc w).mono fun _ _ h => ⟨h.1, hS.keep hi h.2⟩)
theorem gf_fill {x y : Operand} {c0 : Array Value} (hL : L[j]? = some (q, t, c0)) (hs : c.size = c0.size) (hw : ∀ g, Region.wanted ⟨dst, .store T x y, ty, pos, aft, gd⟩ (yielded ops (F g).tmps) = true) (hp : ∀ g, (F g).put dst undef = F g)
    (hx : ∀ g, (F g).eval x = .pointer (some ⟨q, 0, none⟩)) (hy : ∀ g, (F g).eval y = .agg c) (hz : (Tryd.prog.info? T).map (·.size) = some c.size) (h1 : c.all (·.oneCell') = true) (hi : i1 ≠ i0)
    (he : (aft.any fun e => Region.binds .any e && e.on == i1) = true) :
    OpGhost Tryd.prog .any ops Q (GF w0 L i0 i1 j q t c) F i0 ⟨dst, .store T x y, ty, pos, aft, gd⟩ :=
  OpGhost.skips (W := fun _ w => w.setCells q 0 c.toList) hw hp (fun g d w h hd haft => by
    obtain ⟨m, hm, h3⟩ := Array.any_eq_true.1 he
    rw [Bool.and_eq_true, beq_iff_eq] at h3
    have ha : d i1 = true := by rw [← h3.2]; exact haft _ (Array.getElem_mem hm) h3.1
    have hH := h.held
    rw [hd, if_neg (by decide)] at hH
    exact ⟨run_store_blk (hx g) (hy g) (hH.get j hL) hs hz h1, by rw [up_at, if_pos rfl]; exact hH.fill j hL hs, fun _ => by rw [up_ne _ _ hi]; exact ha⟩)
theorem GF.start {g : Nat → Nat} {d : Nat → Bool} {w : World} (h : HA w0 L w) (hd : d i0 = false) : GF w0 L i0 i1 j q t c g d w := ⟨by rw [hd]; exact h, fun h0 => by rw [hd] at h0; cases h0⟩
end
section
variable {ops : Array Oper} {Q : Exit → Act → World → Prop} {F : (Nat → Nat) → Act} {i i0 i1 j q : Nat} {dst : Option Tmp} {T ty : TypeId} {pos : String} {aft : Array Edge} {gd : Option (Nat × Bool)}
  {w0 : World} {L : List (Nat × TypeId × Array Value)} {t : TypeId} {c : Array Value}
/-- the cell that is read ahead of the put -/
theorem gf_cell {x : Operand} {v : Value} {e : Nat × TypeId × Array Value} (m : Nat) (hm : L[m]? = some e) (hi : i1 ≠ i0) (off : Nat) (hv : e.2.2[off]? = some v) (hg : ∀ w, (isAgg T).run Tryd.prog w = .ok false w)
    (hw : ∀ g, Region.wanted ⟨dst, .load T x, ty, pos, aft, gd⟩ (yielded ops (F g).tmps) = true) (hp : ∀ g, (F g).put dst v = F g) (hx : ∀ g, (F g).eval x = .pointer (some ⟨e.1, off, none⟩)) :
    OpGhost Tryd.prog .any ops Q (GF w0 L i0 i1 j q t c) F i1 ⟨dst, .load T x, ty, pos, aft, gd⟩ := fun g d w h hdi _ => by
  rw [if_pos (hw g)]
  unfold Oper.wp
  have h0 : d i0 = false := by
    cases h0 : d i0 with
    | false => rfl
    | true => rw [h.seen h0] at hdi; cases hdi
  have hH := h.held
  rw [h0, if_neg (by decide)] at hH
  rw [run_load1 hg (hx g) (((hH.get m hm).cell off).trans hv)]
  exact ⟨g i1, by rw [up_self]; exact hp g, by rw [up_self]; exact h.keep hi (Below.refl _ w)⟩
theorem gf_cell2 {x : Operand} {v : Value} {e : Nat × TypeId × Array Value} (m : Nat) (hjm : j ≠ m) (hm : L[m]? = some e) (hi : i ≠ i0) (off : Nat) (hv : e.2.2[off]? = some v) (hg : ∀ w, (isAgg T).run Tryd.prog w = .ok false w)
    (hw : ∀ g, Region.wanted ⟨dst, .load T x, ty, pos, aft, gd⟩ (yielded ops (F g).tmps) = true) (hp : ∀ g, (F g).put dst v = F g) (hx : ∀ g, (F g).eval x = .pointer (some ⟨e.1, off, none⟩)) :
    OpGhost Tryd.prog .any ops Q (GF w0 L i0 i1 j q t c) F i ⟨dst, .load T x, ty, pos, aft, gd⟩ :=
  OpGhost.take (v := fun _ => v) hw hp (fun g d w h _ => by
    have hB : Blk w e.1 e.2.1 e.2.2 := by
      have hH := h.held
      split at hH
      · exact hH.get m (by rw [List.getElem?_set_ne hjm]; exact hm)
      · exact hH.get m hm
    exact ⟨run_load1 hg (hx g) ((hB.cell off).trans hv), h.keep hi (Below.refl _ w)⟩)
theorem gf_put {x y : Operand} {k : IntKind} {z : Int} {c0 : Array Value} {off : Nat} (hL : L[j]? = some (q, t, c0)) (hoff : off < c0.size) (hc : c0.setIfInBounds off (.int k z) = c) (hs : ∀ w, (sizeOf T).run Tryd.prog w = .ok 1 w)
    (hw : ∀ g, Region.wanted ⟨dst, .store T x y, ty, pos, aft, gd⟩ (yielded ops (F g).tmps) = true) (hp : ∀ g, (F g).put dst undef = F g) (hx : ∀ g, (F g).eval x = .pointer (some ⟨q, off, none⟩)) (hy : ∀ g, (F g).eval y = .int k z) (hi : i1 ≠ i0)
    (he : (aft.any fun e => Region.binds .any e && e.on == i1) = true) :
    OpGhost Tryd.prog .any ops Q (GF w0 L i0 i1 j q t c) F i0 ⟨dst, .store T x y, ty, pos, aft, gd⟩ :=
  OpGhost.skips (W := fun _ w => w.setCell ⟨q, off, none⟩ (.int k z)) hw hp (fun g d w h hd haft => by
    obtain ⟨m, hm, h3⟩ := Array.any_eq_true.1 he
    rw [Bool.and_eq_true, beq_iff_eq] at h3
    have ha : d i1 = true := by rw [← h3.2]; exact haft _ (Array.getElem_mem hm) h3.1
    have hH := h.held
    rw [hd, if_neg (by decide)] at hH
    refine ⟨run_store1 hs (hx g) (hy g) (by rw [(hH.get j hL).cell off]; simp [hoff]) ((hH.get j hL).free off), ?_, fun _ => by rw [up_ne _ _ hi]; exact ha⟩
    rw [up_at, if_pos rfl]
    have := hH.put j hL off (.int k z)
    rw [hc] at this
    exact this)
end
end Go.Proofs.YtdblnbcclfenkaaDoor
