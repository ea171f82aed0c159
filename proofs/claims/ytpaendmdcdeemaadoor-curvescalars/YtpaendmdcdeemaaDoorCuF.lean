/-
  A drawn region that reads two blocks and then fills both; a call of a function that is a value.
-/
import Derived.Test.YtpaendmdcdeemaaDoorCuE
namespace Go.Proofs.YtpaendmdcdeemaaDoor
open Go.RowKit Num

theorem run_callv {ρ : Operand → Value} {x : Operand} {xs : Array Operand} {ats : Array TypeId} {w : World} {dst : Option Tmp} {ty : TypeId} {pos : String} {aft : Array Edge} {gd : Option (Nat × Bool)} {f : FuncId} {cap args : Array Value}
    (hr : ∀ args w, (callFunc f args).run Tryd.prog w = .ok (.enter f args) w) (hx : ρ x = .func (.func f) #[] cap) (ha : #[] ++ xs.map ρ ++ cap = args) :
    (execOp ρ ⟨dst, .call { callee := .value x, args := xs, argTypes := ats }, ty, pos, aft, gd⟩).run Tryd.prog w = .ok (.enter f args) w := by
  subst ha
  simp only [execOp, resolve, hx, invoke, Deferred.ofValue, Sem.run_bind, Sem.run_pure, Result.andThen_ok]
  exact hr _ w
theorem up_true {d : Nat → Bool} {i m : Nat} (h : d m = true) : up d i true m = true := by
  by_cases e : m = i
  · rw [e]; exact up_at _ _ _
  · rw [up_ne _ _ e]; exact h
/-- pre: who comes ahead of whom -/
def Cl (pre : Nat → List Nat) (d : Nat → Bool) : Prop := ∀ i, d i = true → ∀ m ∈ pre i, d m = true
def ahead (aft : Array Edge) (l : List Nat) : Bool := l.all fun m => aft.any fun e => Region.binds .any e && e.on == m
theorem ahead_ok {aft : Array Edge} {l : List Nat} {d : Nat → Bool} (he : ahead aft l = true) (haft : ∀ e ∈ aft, Region.binds .any e = true → d e.on = true) : ∀ m ∈ l, d m = true := fun m hm => by
  obtain ⟨k, hk, h3⟩ := Array.any_eq_true.1 (List.all_eq_true.1 he m hm)
  rw [Bool.and_eq_true, beq_iff_eq] at h3
  rw [← h3.2]
  exact haft _ (Array.getElem_mem hk) h3.1
theorem Cl.up {pre : Nat → List Nat} {d : Nat → Bool} {i : Nat} (h : Cl pre d) (hm : ∀ m ∈ pre i, d m = true) : Cl pre (up d i true) := fun i' h' m hm' => by
  by_cases e : i' = i
  · rw [e] at hm'; exact up_true (hm m hm')
  · rw [up_ne _ _ e] at h'; exact up_true (h i' h' m hm')
theorem Cl.start {ll : List (List Nat)} {n : Nat} {d : Nat → Bool} (hd : ∀ j, j < n → d j = false) (hn : ll.length ≤ n) : Cl (fun i => ll.getD i []) d := fun i h m hm => by
  by_cases hi : i < ll.length
  · rw [hd i (Nat.lt_of_lt_of_le hi hn)] at h; cases h
  · have hm2 : m ∈ ll.getD i [] := hm
    rw [List.getD_eq_getElem?_getD, List.getElem?_eq_none (Nat.le_of_not_lt hi)] at hm2; cases hm2
structure GB (w0 : World) (L : List (Nat × TypeId × Array Value)) (pre : Nat → List Nat) (i0 j0 : Nat) (x0 : Nat × TypeId × Array Value) (i1 j1 : Nat) (x1 : Nat × TypeId × Array Value) (g : Nat → Nat) (d : Nat → Bool) (w : World) : Prop where
  held : HA w0 (if d i1 = true then (if d i0 = true then L.set j0 x0 else L).set j1 x1 else (if d i0 = true then L.set j0 x0 else L)) w
  seen : Cl pre d
section
variable {ops : Array Oper} {Q : Exit → Act → World → Prop} {F : (Nat → Nat) → Act} {i i0 i1 j0 j1 : Nat} {dst : Option Tmp} {T ty : TypeId} {pos : String} {aft : Array Edge} {gd : Option (Nat × Bool)}
  {w0 : World} {L : List (Nat × TypeId × Array Value)} {pre : Nat → List Nat} {x0 x1 : Nat × TypeId × Array Value}
theorem GB.keep {g : Nat → Nat} {d : Nat → Bool} {w w' : World} (h : GB w0 L pre i0 j0 x0 i1 j1 x1 g d w) (hi : i ≠ i0) (hi1 : i ≠ i1) (hm : ∀ m ∈ pre i, d m = true) (hb : Below w.heap.size w w') : GB w0 L pre i0 j0 x0 i1 j1 x1 g (up d i true) w' :=
  ⟨by rw [up_ne _ _ (Ne.symm hi), up_ne _ _ (Ne.symm hi1)]; exact h.held.keep _ _ hb, h.seen.up hm⟩
theorem GB.get {g : Nat → Nat} {d : Nat → Bool} {w : World} (h : GB w0 L pre i0 j0 x0 i1 j1 x1 g d w) (m : Nat) (hm : j0 ≠ m) (hm1 : j1 ≠ m) {x : Nat × TypeId × Array Value} (hx : L[m]? = some x) : Blk w x.1 x.2.1 x.2.2 := by
  refine h.held.get m ?_
  split <;> split <;> simp only [List.getElem?_set_ne hm, List.getElem?_set_ne hm1, hx]
theorem gb_plain {o : Oper} {v : Value} (hi : i ≠ i0) (hi1 : i ≠ i1) (he : ahead o.after (pre i) = true) (hw : ∀ g, Region.wanted o (yielded ops (F g).tmps) = true) (hp : ∀ g, (F g).put o.dst v = F g)
    (hr : ∀ g w, (execOp (F g).eval o).run Tryd.prog w = .ok (.value v) w) : OpGhost Tryd.prog .any ops Q (GB w0 L pre i0 j0 x0 i1 j1 x1) F i o :=
  OpGhost.take (v := fun _ => v) hw hp (fun g _ w h ha => ⟨hr g w, h.keep hi hi1 (ahead_ok he ha) (Below.refl _ w)⟩)
/-- a load that comes ahead of both -/
theorem gb_load {x : Operand} {D : TypeDesc} {e : Nat × TypeId × Array Value} (m : Nat) (hm : L[m]? = some e) (hi : i ≠ i0) (hi1 : i ≠ i1) (h0 : ∀ d, Cl pre d → d i0 = true → d i = true) (h1 : ∀ d, Cl pre d → d i1 = true → d i = true) (he : ahead aft (pre i) = true)
    (hw : ∀ g, Region.wanted ⟨dst, .load T x, ty, pos, aft, gd⟩ (yielded ops (F g).tmps) = true) (hp : ∀ g, (F g).put dst (.agg e.2.2) = F g) (hx : ∀ g, (F g).eval x = .pointer (some ⟨e.1, 0, none⟩))
    (hu : Tryd.prog.underlying T = some D) (hd : D.isRow = true) (hz : (Tryd.prog.info? T).map (·.size) = some e.2.2.size) :
    OpGhost Tryd.prog .any ops Q (GB w0 L pre i0 j0 x0 i1 j1 x1) F i ⟨dst, .load T x, ty, pos, aft, gd⟩ := fun g d w h hdi ha => by
  rw [if_pos (hw g)]
  unfold Oper.wp
  have e0 : ¬ d i0 = true := fun h' => by rw [h0 d h.seen h'] at hdi; cases hdi
  have e1 : ¬ d i1 = true := fun h' => by rw [h1 d h.seen h'] at hdi; cases hdi
  have hH := h.held
  rw [if_neg e1, if_neg e0] at hH
  rw [run_load_blk (hx g) (hH.get m hm) hu hd hz]
  exact ⟨g i, by rw [up_self]; exact hp g, by rw [up_self]; exact h.keep hi hi1 (ahead_ok he ha) (Below.refl _ w)⟩
theorem gb_callh {f : FuncId} {xs : Array Operand} {ats : Array TypeId} {v : Value} (hi : i ≠ i0) (hi1 : i ≠ i1) (he : ahead aft (pre i) = true)
    (hw : ∀ g, Region.wanted ⟨dst, .call { callee := .value (.func f), args := xs, argTypes := ats }, ty, pos, aft, gd⟩ (yielded ops (F g).tmps) = true) (hp : ∀ g, (F g).put dst v = F g)
    (hr : ∀ args w, (callFunc f args).run Tryd.prog w = .ok (.enter f args) w) (args : Array Value) (ha : ∀ g, #[] ++ xs.map (F g).eval ++ #[] = args)
    (hc : ∀ w, Below w0.heap.size w0 w → Calls Tryd.prog f args w fun e w' => e = .returned v ∧ Below w.heap.size w w') :
    OpGhost Tryd.prog .any ops Q (GB w0 L pre i0 j0 x0 i1 j1 x1) F i ⟨dst, .call { callee := .value (.func f), args := xs, argTypes := ats }, ty, pos, aft, gd⟩ :=
  OpGhost.call (v := fun _ => v) (args := fun _ => args) hw hp (fun g w => by rw [execOp_call_go, ha g]; exact hr _ w) (fun _ _ w hS h' => (hc w hS.held.old).mono fun _ _ h => ⟨h.1, hS.keep hi hi1 (ahead_ok he h') h.2⟩)
/-- a call of a value, that may read a block that is not filled -/
theorem gb_callv {f : FuncId} {x : Operand} {xs : Array Operand} {ats : Array TypeId} {v : Value} {cap : Array Value} {e : Nat × TypeId × Array Value} (m : Nat) (hm : L[m]? = some e) (hj0 : j0 ≠ m) (hj1 : j1 ≠ m) (hi : i ≠ i0) (hi1 : i ≠ i1) (he : ahead aft (pre i) = true)
    (hw : ∀ g, Region.wanted ⟨dst, .call { callee := .value x, args := xs, argTypes := ats }, ty, pos, aft, gd⟩ (yielded ops (F g).tmps) = true) (hp : ∀ g, (F g).put dst v = F g)
    (hr : ∀ args w, (callFunc f args).run Tryd.prog w = .ok (.enter f args) w) (hx : ∀ g, (F g).eval x = .func (.func f) #[] cap) (args : Array Value) (ha : ∀ g, #[] ++ xs.map (F g).eval ++ cap = args)
    (hc : ∀ w, Below w0.heap.size w0 w → Blk w e.1 e.2.1 e.2.2 → Calls Tryd.prog f args w fun e w' => e = .returned v ∧ Below w.heap.size w w') :
    OpGhost Tryd.prog .any ops Q (GB w0 L pre i0 j0 x0 i1 j1 x1) F i ⟨dst, .call { callee := .value x, args := xs, argTypes := ats }, ty, pos, aft, gd⟩ :=
  OpGhost.call (v := fun _ => v) (args := fun _ => args) hw hp (fun g _ => run_callv hr (hx g) (ha g)) (fun _ _ w hS h' => (hc w hS.held.old (hS.get m hj0 hj1 hm)).mono fun _ _ h => ⟨h.1, hS.keep hi hi1 (ahead_ok he h') h.2⟩)
theorem gb_fill0 {x y : Operand} {c0 : Array Value} (hL : L[j0]? = some (x0.1, x0.2.1, c0)) (hs : x0.2.2.size = c0.size) (hii : i1 ≠ i0) (h10 : i0 ∈ pre i1) (he : ahead aft (pre i0) = true) (hw : ∀ g, Region.wanted ⟨dst, .store T x y, ty, pos, aft, gd⟩ (yielded ops (F g).tmps) = true) (hp : ∀ g, (F g).put dst undef = F g)
    (hx : ∀ g, (F g).eval x = .pointer (some ⟨x0.1, 0, none⟩)) (hy : ∀ g, (F g).eval y = .agg x0.2.2) (hz : (Tryd.prog.info? T).map (·.size) = some x0.2.2.size) (h1 : x0.2.2.all (·.oneCell') = true) :
    OpGhost Tryd.prog .any ops Q (GB w0 L pre i0 j0 x0 i1 j1 x1) F i0 ⟨dst, .store T x y, ty, pos, aft, gd⟩ :=
  OpGhost.skips (W := fun _ w => w.setCells x0.1 0 x0.2.2.toList) hw hp (fun g d w h hd ha => by
    have e1 : ¬ d i1 = true := fun h' => by rw [h.seen i1 h' i0 h10] at hd; cases hd
    have e0 : ¬ d i0 = true := by rw [hd]; decide
    have hH := h.held
    rw [if_neg e1, if_neg e0] at hH
    exact ⟨run_store_blk (hx g) (hy g) (hH.get (x := (x0.1, x0.2.1, c0)) j0 hL) hs hz h1, by rw [up_ne _ _ hii, if_neg e1, up_at, if_pos rfl]; exact hH.fill j0 hL hs, h.seen.up (ahead_ok he ha)⟩)
theorem gb_fill1 {x y : Operand} {c0 : Array Value} (hL : L[j1]? = some (x1.1, x1.2.1, c0)) (hs : x1.2.2.size = c0.size) (hj : j0 ≠ j1) (hii : i0 ≠ i1) (he : ahead aft (pre i1) = true) (hw : ∀ g, Region.wanted ⟨dst, .store T x y, ty, pos, aft, gd⟩ (yielded ops (F g).tmps) = true) (hp : ∀ g, (F g).put dst undef = F g)
    (hx : ∀ g, (F g).eval x = .pointer (some ⟨x1.1, 0, none⟩)) (hy : ∀ g, (F g).eval y = .agg x1.2.2) (hz : (Tryd.prog.info? T).map (·.size) = some x1.2.2.size) (h1 : x1.2.2.all (·.oneCell') = true) :
    OpGhost Tryd.prog .any ops Q (GB w0 L pre i0 j0 x0 i1 j1 x1) F i1 ⟨dst, .store T x y, ty, pos, aft, gd⟩ :=
  OpGhost.skips (W := fun _ w => w.setCells x1.1 0 x1.2.2.toList) hw hp (fun g d w h hd ha => by
    have hH := h.held
    rw [if_neg (by rw [hd]; decide)] at hH
    have hL2 : (if d i0 = true then L.set j0 x0 else L)[j1]? = some (x1.1, x1.2.1, c0) := by
      split
      · rw [List.getElem?_set_ne hj]; exact hL
      · exact hL
    exact ⟨run_store_blk (hx g) (hy g) (hH.get (x := (x1.1, x1.2.1, c0)) j1 hL2) hs hz h1, by rw [up_at, if_pos rfl, up_ne _ _ hii]; exact hH.fill j1 hL2 hs, h.seen.up (ahead_ok he ha)⟩)
theorem GB.start {g : Nat → Nat} {d : Nat → Bool} {w : World} (h : HA w0 L w) (hd : d i0 = false) (hd1 : d i1 = false) (hc : Cl pre d) : GB w0 L pre i0 j0 x0 i1 j1 x1 g d w := ⟨by rw [hd, hd1]; exact h, hc⟩
end
end Go.Proofs.YtpaendmdcdeemaaDoor
