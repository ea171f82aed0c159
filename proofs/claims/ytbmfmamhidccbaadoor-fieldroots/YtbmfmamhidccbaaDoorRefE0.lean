/-
  A region that draws its order and fills one block whole.
-/
import Derived.Test.YtbmfmamhidccbaaDoorRefD0
namespace Go.Proofs.YtbmfmamhidccbaaDoor
open Go.RowKit Num

/-- number i0 fills block q, which number i1 has read -/
structure GF (w0 : World) (L : List (Nat × TypeId × Array Value)) (i0 i1 j q : Nat) (t : TypeId) (c : Array Value) (g : Nat → Nat) (d : Nat → Bool) (w : World) : Prop where
  held : HA w0 (if d i0 = true then L.set j (q, t, c) else L) w
  seen : d i0 = true → d i1 = true
section
variable {ops : Array Oper} {Q : Exit → Act → World → Prop} {F : (Nat → Nat) → Act} {i i0 i1 j q : Nat} {dst : Option Tmp} {T ty : TypeId} {pos : String} {aft : Array Edge} {gd : Option (Nat × Bool)}
  {w0 : World} {L : List (Nat × TypeId × Array Value)} {t : TypeId} {c : Array Value}
theorem GF.keep {g : Nat → Nat} {d : Nat → Bool} {w w' : World} (h : GF w0 L i0 i1 j q t c g d w) (hi : i ≠ i0) (hb : Below w.heap.size w w') : GF w0 L i0 i1 j q t c g (up d i true) w' :=
  ⟨by rw [up_ne _ _ (Ne.symm hi)]; exact h.held.keep _ _ hb, fun h0 => by
    rw [up_ne _ _ (Ne.symm hi)] at h0
    by_cases hii : i1 = i
    · rw [hii]; exact up_at _ _ _
    · rw [up_ne _ _ hii]; exact h.seen h0⟩
theorem gf_plain {o : Oper} {v : Value} (hi : i ≠ i0) (hw : ∀ g, Region.wanted o (yielded ops (F g).tmps) = true) (hp : ∀ g, (F g).put o.dst v = F g)
    (hr : ∀ g w, (execOp (F g).eval o).run Tryd.prog w = .ok (.value v) w) : OpGhost Tryd.prog .any ops Q (GF w0 L i0 i1 j q t c) F i o :=
  OpGhost.take (v := fun _ => v) hw hp (fun g _ w h _ => ⟨hr g w, h.keep hi (Below.refl _ w)⟩)
/-- the load that comes ahead of the filling -/
theorem gf_load {x : Operand} {D : TypeDesc} {e : Nat × TypeId × Array Value} (m : Nat) (hm : L[m]? = some e) (hi : i1 ≠ i0)
    (hw : ∀ g, Region.wanted ⟨dst, .load T x, ty, pos, aft, gd⟩ (yielded ops (F g).tmps) = true) (hp : ∀ g, (F g).put dst (.agg e.2.2) = F g) (hx : ∀ g, (F g).eval x = .pointer (some ⟨e.1, 0, none⟩))
    (hu : Tryd.prog.underlying T = some D) (hd : D.isRow = true) (hz : (Tryd.prog.info? T).map (·.size) = some e.2.2.size) :
    OpGhost Tryd.prog .any ops Q (GF w0 L i0 i1 j q t c) F i1 ⟨dst, .load T x, ty, pos, aft, gd⟩ := fun g d w h hdi _ => by
  rw [if_pos (hw g)]
  unfold Oper.wp
  have h0 : d i0 = false := by
    cases h0 : d i0 with
    | false => rfl
    | true => rw [h.seen h0] at hdi; cases hdi
  have hH := h.held
  rw [h0, if_neg (by decide)] at hH
  rw [run_load_blk (hx g) (hH.get m hm) hu hd hz]
  exact ⟨g i1, by rw [up_self]; exact hp g, by rw [up_self]; exact h.keep hi (Below.refl _ w)⟩
/-- a load from another block -/
theorem gf_load2 {x : Operand} {D : TypeDesc} {e : Nat × TypeId × Array Value} (m : Nat) (hjm : j ≠ m) (hm : L[m]? = some e) (hi : i ≠ i0)
    (hw : ∀ g, Region.wanted ⟨dst, .load T x, ty, pos, aft, gd⟩ (yielded ops (F g).tmps) = true) (hp : ∀ g, (F g).put dst (.agg e.2.2) = F g) (hx : ∀ g, (F g).eval x = .pointer (some ⟨e.1, 0, none⟩))
    (hu : Tryd.prog.underlying T = some D) (hd : D.isRow = true) (hz : (Tryd.prog.info? T).map (·.size) = some e.2.2.size) :
    OpGhost Tryd.prog .any ops Q (GF w0 L i0 i1 j q t c) F i ⟨dst, .load T x, ty, pos, aft, gd⟩ :=
  OpGhost.take (v := fun _ => .agg e.2.2) hw hp (fun g d w h _ => by
    have hB : Blk w e.1 e.2.1 e.2.2 := by
      have hH := h.held
      split at hH
      · exact hH.get m (by rw [List.getElem?_set_ne hjm]; exact hm)
      · exact hH.get m hm
    exact ⟨run_load_blk (hx g) hB hu hd hz, h.keep hi (Below.refl _ w)⟩)
theorem gf_call {f : FuncId} {xs : Array Operand} {ats : Array TypeId} {v : Value} (hi : i ≠ i0)
    (hw : ∀ g, Region.wanted ⟨dst, .call { callee := .value (.func f), args := xs, argTypes := ats }, ty, pos, aft, gd⟩ (yielded ops (F g).tmps) = true) (hp : ∀ g, (F g).put dst v = F g)
    (hr : ∀ args w, (callFunc f args).run Tryd.prog w = .ok (.enter f args) w) (args : Array Value) (ha : ∀ g, #[] ++ xs.map (F g).eval ++ #[] = args)
    (hc : ∀ w, Calls Tryd.prog f args w fun e w' => e = .returned v ∧ Below w.heap.size w w') :
    OpGhost Tryd.prog .any ops Q (GF w0 L i0 i1 j q t c) F i ⟨dst, .call { callee := .value (.func f), args := xs, argTypes := ats }, ty, pos, aft, gd⟩ :=
  OpGhost.call (v := fun _ => v) (args := fun _ => args) hw hp (fun g w => by rw [execOp_call_go, ha g]; exact hr _ w) (fun _ _ w hS _ => (hc w).mono fun _ _ h => ⟨h.1, hS.keep hi h.2⟩)
theorem gf_fill {x y : Operand} {c0 : Array Value} (hL : L[j]? = some (q, t, c0)) (hs : c.size = c0.size) (hw : ∀ g, Region.wanted ⟨dst, .store T x y, ty, pos, aft, gd⟩ (yielded ops (F g).tmps) = true) (hp : ∀ g, (F g).put dst undef = F g)
    (hx : ∀ g, (F g).eval x = .pointer (some ⟨q, 0, none⟩)) (hy : ∀ g, (F g).eval y = .agg c) (hz : (Tryd.prog.info? T).map (·.size) = some c.size) (h1 : c.all (·.oneCell') = true) (hi : i1 ≠ i0)
    (he : (aft.any fun e => Region.binds .any e && e.on == i1) = true) :
    OpGhost Tryd.prog .any ops Q (GF w0 L i0 i1 j q t c) F i0 ⟨dst, .store T x y, ty, pos, aft, gd⟩ :=
  OpGhost.skips (W := fun _ w => w.setCells q 0 c.toList) hw hp (fun g d w h hd haft => by
    obtain ⟨m, hm, h3⟩ := Array.any_eq_true.1 he
    rw [Bool.and_eq_true, beq_iff_eq] at h3
    have ha : d i1 = true := by rw [← h3.2]; exact haft _ (Array.getElem_mem hm) h3.1
    have hH := h.held
    rw [hd, if_neg (by decide)] at hH
    exact ⟨run_store_blk (hx g) (hy g) (hH.get j hL) hs hz h1, by rw [up_at, if_pos rfl]; exact hH.fill j hL hs, fun _ => by rw [up_ne _ _ hi]; exact ha⟩)
theorem GF.start {g : Nat → Nat} {d : Nat → Bool} {w : World} (h : HA w0 L w) (hd : d i0 = false) : GF w0 L i0 i1 j q t c g d w := ⟨by rw [hd]; exact h, fun h0 => by rw [hd] at h0; cases h0⟩
end
end Go.Proofs.YtbmfmamhidccbaaDoor
