/-
  The base for hash's seat: calls and drawn regions, nothing of a law.
-/
import Derived.Test.YtmlldbkhphngeaaDoorOps
import Derived.BigCall
import Derived.Deep.OwnRows
import Derived.Laws.AppendOwn
import Derived.Laws.IdiomCopy
import Derived.Lib.AppendStr
namespace Go.Proofs.YtmlldbkhphngeaaDoor
open Go.RowKit

/-- a call that keeps old memory, as a sure operation -/
theorem sure_call {ops : Array Oper} {Q : Exit → Act → World → Prop} {S : World → Prop} {F : Act} {dst : Option Tmp} {f : FuncId} {xs : Array Operand} {ats : Array TypeId} {ty : TypeId} {pos : String} {aft : Array Edge} {gd : Option (Nat × Bool)} {v : Value}
    (hw : Region.wanted ⟨dst, .call { callee := .value (.func f), args := xs, argTypes := ats }, ty, pos, aft, gd⟩ (yielded ops F.tmps) = true) (hp : F.put dst v = F)
    (hr : ∀ args w, (callFunc f args).run Tryd.prog w = .ok (.enter f args) w) (hk : ∀ w w', S w → Below w.heap.size w w' → S w') (args : Array Value) (ha : #[] ++ xs.map F.eval ++ #[] = args)
    (hc : ∀ w, S w → Calls Tryd.prog f args w fun e w' => e = .returned v ∧ Below w.heap.size w w') :
    OpSure Tryd.prog ops Q S F ⟨dst, .call { callee := .value (.func f), args := xs, argTypes := ats }, ty, pos, aft, gd⟩ := by
  subst ha
  exact OpSure.call hw hp (fun w _ => by rw [execOp_call_go]; exact hr _ w) (fun w hS => (hc w hS).mono fun e w' h => ⟨h.1, hk w w' hS h.2⟩)
theorem enter22 (args : Array Value) (w : World) : (callFunc 22 args).run Tryd.prog w = .ok (.enter 22 args) w := by go_simp
theorem enter24 (args : Array Value) (w : World) : (callFunc 24 args).run Tryd.prog w = .ok (.enter 24 args) w := by go_simp
theorem enter27 (args : Array Value) (w : World) : (callFunc 27 args).run Tryd.prog w = .ok (.enter 27 args) w := by go_simp
theorem enter28 (args : Array Value) (w : World) : (callFunc 28 args).run Tryd.prog w = .ok (.enter 28 args) w := by go_simp
theorem enter29 (args : Array Value) (w : World) : (callFunc 29 args).run Tryd.prog w = .ok (.enter 29 args) w := by go_simp
theorem enter30 (args : Array Value) (w : World) : (callFunc 30 args).run Tryd.prog w = .ok (.enter 30 args) w := by go_simp
theorem enter31 (args : Array Value) (w : World) : (callFunc 31 args).run Tryd.prog w = .ok (.enter 31 args) w := by go_simp
theorem enter32 (args : Array Value) (w : World) : (callFunc 32 args).run Tryd.prog w = .ok (.enter 32 args) w := by go_simp
theorem enter33 (args : Array Value) (w : World) : (callFunc 33 args).run Tryd.prog w = .ok (.enter 33 args) w := by go_simp
theorem enter34 (args : Array Value) (w : World) : (callFunc 34 args).run Tryd.prog w = .ok (.enter 34 args) w := by go_simp
theorem enter35 (args : Array Value) (w : World) : (callFunc 35 args).run Tryd.prog w = .ok (.enter 35 args) w := by go_simp
theorem enter36 (args : Array Value) (w : World) : (callFunc 36 args).run Tryd.prog w = .ok (.enter 36 args) w := by go_simp
theorem enter37 (args : Array Value) (w : World) : (callFunc 37 args).run Tryd.prog w = .ok (.enter 37 args) w := by go_simp
theorem enter38 (args : Array Value) (w : World) : (callFunc 38 args).run Tryd.prog w = .ok (.enter 38 args) w := by go_simp
theorem enter39 (args : Array Value) (w : World) : (callFunc 39 args).run Tryd.prog w = .ok (.enter 39 args) w := by go_simp
theorem enter40 (args : Array Value) (w : World) : (callFunc 40 args).run Tryd.prog w = .ok (.enter 40 args) w := by go_simp
theorem enter3 (args : Array Value) (w : World) : (callFunc 3 args).run Tryd.prog w = .ok (.enter 3 args) w := by go_simp
theorem enter4 (args : Array Value) (w : World) : (callFunc 4 args).run Tryd.prog w = .ok (.enter 4 args) w := by go_simp
theorem enter5 (args : Array Value) (w : World) : (callFunc 5 args).run Tryd.prog w = .ok (.enter 5 args) w := by go_simp
theorem enter6 (args : Array Value) (w : World) : (callFunc 6 args).run Tryd.prog w = .ok (.enter 6 args) w := by go_simp
theorem enter7 (args : Array Value) (w : World) : (callFunc 7 args).run Tryd.prog w = .ok (.enter 7 args) w := by go_simp
theorem enter8 (args : Array Value) (w : World) : (callFunc 8 args).run Tryd.prog w = .ok (.enter 8 args) w := by go_simp
theorem enter9 (args : Array Value) (w : World) : (callFunc 9 args).run Tryd.prog w = .ok (.enter 9 args) w := by go_simp
theorem enter10 (args : Array Value) (w : World) : (callFunc 10 args).run Tryd.prog w = .ok (.enter 10 args) w := by go_simp
theorem enter11 (args : Array Value) (w : World) : (callFunc 11 args).run Tryd.prog w = .ok (.enter 11 args) w := by go_simp
theorem enter12 (args : Array Value) (w : World) : (callFunc 12 args).run Tryd.prog w = .ok (.enter 12 args) w := by go_simp
theorem enter13 (args : Array Value) (w : World) : (callFunc 13 args).run Tryd.prog w = .ok (.enter 13 args) w := by go_simp
theorem enter14 (args : Array Value) (w : World) : (callFunc 14 args).run Tryd.prog w = .ok (.enter 14 args) w := by go_simp
theorem enter15 (args : Array Value) (w : World) : (callFunc 15 args).run Tryd.prog w = .ok (.enter 15 args) w := by go_simp
theorem enter16 (args : Array Value) (w : World) : (callFunc 16 args).run Tryd.prog w = .ok (.enter 16 args) w := by go_simp
theorem enter17 (args : Array Value) (w : World) : (callFunc 17 args).run Tryd.prog w = .ok (.enter 17 args) w := by go_simp
theorem enter18 (args : Array Value) (w : World) : (callFunc 18 args).run Tryd.prog w = .ok (.enter 18 args) w := by go_simp
theorem enter19 (args : Array Value) (w : World) : (callFunc 19 args).run Tryd.prog w = .ok (.enter 19 args) w := by go_simp
theorem enter20 (args : Array Value) (w : World) : (callFunc 20 args).run Tryd.prog w = .ok (.enter 20 args) w := by go_simp
theorem enter21 (args : Array Value) (w : World) : (callFunc 21 args).run Tryd.prog w = .ok (.enter 21 args) w := by go_simp
theorem enter23 (args : Array Value) (w : World) : (callFunc 23 args).run Tryd.prog w = .ok (.enter 23 args) w := by go_simp
theorem enter25 (args : Array Value) (w : World) : (callFunc 25 args).run Tryd.prog w = .ok (.enter 25 args) w := by go_simp
theorem enter26 (args : Array Value) (w : World) : (callFunc 26 args).run Tryd.prog w = .ok (.enter 26 args) w := by go_simp
/-- an operation without world -/
theorem sure_plain {ops : Array Oper} {Q : Exit → Act → World → Prop} {S : World → Prop} {F : Act} {o : Oper} {v : Value}
    (hw : Region.wanted o (yielded ops F.tmps) = true) (hp : F.put o.dst v = F) (h : ∀ w, (execOp F.eval o).run Tryd.prog w = .ok (.value v) w) : OpSure Tryd.prog ops Q S F o := OpSure.take hw hp (fun w _ => h w)
/-! whole loads, new variables and their filling, words without world, in a region that makes variables -/
section
variable {ops : Array Oper} {Q : Exit → Act → World → Prop} {F : (Nat → Nat) → Act} {md : Region.Mode} {i : Nat} {dst : Option Tmp} {ty ty' : TypeId} {pos : String} {aft : Array Edge} {gd : Option (Nat × Bool)}
  {w0 : World} {L : List (Nat × TypeId × Array Value)} {B : Nat} {k a0 t0 : Nat} {t : TypeId} {z : Array Value} {val : Nat → Array Value}
theorem ghost_load {x : Operand} {D : TypeDesc} {e : Nat × TypeId × Array Value} (j : Nat) (hj : L[j]? = some e) (hi : ∀ m, m < k → i ≠ a0 + m ∧ i ≠ t0 + m)
    (hw : ∀ g, Region.wanted ⟨dst, .load ty x, ty', pos, aft, gd⟩ (yielded ops (F g).tmps) = true) (hp : ∀ g, (F g).put dst (.agg e.2.2) = F g) (hx : ∀ g, (F g).eval x = .pointer (some ⟨e.1, 0, none⟩))
    (hu : Tryd.prog.underlying ty = some D) (hd : D.isRow = true) (hz : (Tryd.prog.info? ty).map (·.size) = some e.2.2.size) :
    OpGhost Tryd.prog md ops Q (GS w0 L B k a0 t0 t z val) F i ⟨dst, .load ty x, ty', pos, aft, gd⟩ :=
  OpGhost.take (v := fun _ => .agg e.2.2) hw hp (fun g _ _ h _ => ⟨run_load_blk (hx g) (h.held.get j hj) hu hd hz, h.load hi⟩)
theorem ghost_plain {o : Oper} {v : Value} (hi : ∀ m, m < k → i ≠ a0 + m ∧ i ≠ t0 + m) (hw : ∀ g, Region.wanted o (yielded ops (F g).tmps) = true) (hp : ∀ g, (F g).put o.dst v = F g)
    (hr : ∀ g w, (execOp (F g).eval o).run Tryd.prog w = .ok (.value v) w) : OpGhost Tryd.prog md ops Q (GS w0 L B k a0 t0 t z val) F i o :=
  OpGhost.take (v := fun _ => v) hw hp (fun g _ w h _ => ⟨hr g w, h.load hi⟩)
theorem ghost_call {f : FuncId} {xs : Array Operand} {ats : Array TypeId} {v : Value} (hi : ∀ m, m < k → i ≠ a0 + m ∧ i ≠ t0 + m)
    (hw : ∀ g, Region.wanted ⟨dst, .call { callee := .value (.func f), args := xs, argTypes := ats }, ty, pos, aft, gd⟩ (yielded ops (F g).tmps) = true) (hp : ∀ g, (F g).put dst v = F g)
    (hr : ∀ args w, (callFunc f args).run Tryd.prog w = .ok (.enter f args) w) (args : Array Value) (ha : ∀ g, #[] ++ xs.map (F g).eval ++ #[] = args)
    (hc : ∀ w, HA w0 L w → Calls Tryd.prog f args w fun e w' => e = .returned v ∧ Below w.heap.size w w') :
    OpGhost Tryd.prog md ops Q (GS w0 L B k a0 t0 t z val) F i ⟨dst, .call { callee := .value (.func f), args := xs, argTypes := ats }, ty, pos, aft, gd⟩ :=
  OpGhost.call (v := fun _ => v) (args := fun _ => args) hw hp (fun g w => by rw [execOp_call_go, ha g]; exact hr _ w) (fun _ _ w hS _ => (hc w hS.held).mono fun _ _ h => ⟨h.1, hS.call hi h.2⟩)
theorem ghost_make (j : Nat) (hj : j < k) (hi : i = a0 + j)
    (hw : ∀ g, Region.wanted ⟨dst, .alloc ty, ty', pos, aft, gd⟩ (yielded ops (F g).tmps) = true) (hp : ∀ g (m : Nat), (F g).put dst (.pointer (some ⟨m, 0, none⟩)) = F (up g i m))
    (hr : ∀ (ρ : Operand → Value) (w : World), (execOp ρ ⟨dst, .alloc ty, ty', pos, aft, gd⟩).run Tryd.prog w = .ok (.value (.pointer (some ⟨w.heap.size, 0, none⟩))) (w.alloc (.cells z ty))) :
    OpGhost Tryd.prog md ops Q (GS w0 L B k a0 t0 ty z val) F i ⟨dst, .alloc ty, ty', pos, aft, gd⟩ :=
  OpGhost.act (v := fun _ w => .pointer (some ⟨w.heap.size, 0, none⟩)) (n := fun _ w => w.heap.size) (W := fun _ w => w.alloc (.cells z ty)) hw (fun g w => hp g w.heap.size) (fun _ _ w h hd _ => ⟨hr _ w, h.make hj hi hd⟩)
theorem ghost_fill {x y : Operand} (j : Nat) (hj : j < k) (hi : i = t0 + j)
    (hw : ∀ g, Region.wanted ⟨dst, .store ty x y, ty', pos, aft, gd⟩ (yielded ops (F g).tmps) = true) (hp : ∀ g, (F g).put dst undef = F g)
    (hx : ∀ g, (F g).eval x = .pointer (some ⟨g (a0 + j), 0, none⟩)) (hy : ∀ g, (F g).eval y = .agg (val j)) (hz : (Tryd.prog.info? ty).map (·.size) = some (val j).size) (h1 : (val j).all (·.oneCell') = true)
    (he : (aft.any fun e => Region.binds .any e && e.on == a0 + j) = true) :
    OpGhost Tryd.prog .any ops Q (GS w0 L B k a0 t0 ty z val) F i ⟨dst, .store ty x y, ty', pos, aft, gd⟩ :=
  OpGhost.skips (W := fun g w => w.setCells (g (a0 + j)) 0 (val j).toList) hw hp (fun g d w h hd haft => by
    obtain ⟨m, hm, h3⟩ := Array.any_eq_true.1 he
    rw [Bool.and_eq_true, beq_iff_eq] at h3
    have ha : d (a0 + j) = true := by rw [← h3.2]; exact haft _ (Array.getElem_mem hm) h3.1
    have hb := (h.new.own j hj ha).2
    have hT : d (t0 + j) = false := hi ▸ hd
    rw [hT, if_neg (by decide)] at hb
    exact ⟨run_store_blk (hx g) (hy g) hb (h.siz j hj) hz h1, h.fill hj hi hd ha⟩)
end
section
variable {ops : Array Oper} {Q : Exit → Act → World → Prop} {F : (Nat → Nat) → Act} {md : Region.Mode} {i : Nat} {dst : Option Tmp} {ty ty' : TypeId} {pos : String} {aft : Array Edge} {gd : Option (Nat × Bool)}
  {w0 : World} {L M : List (Nat × TypeId × Array Value)}
theorem gm_load {x : Operand} {D : TypeDesc} {e : Nat × TypeId × Array Value} (j : Nat) (hj : L[j]? = some e) (hi : M.all (fun x => x.1 != i) = true)
    (hw : ∀ g, Region.wanted ⟨dst, .load ty x, ty', pos, aft, gd⟩ (yielded ops (F g).tmps) = true) (hp : ∀ g, (F g).put dst (.agg e.2.2) = F g) (hx : ∀ g, (F g).eval x = .pointer (some ⟨e.1, 0, none⟩))
    (hu : Tryd.prog.underlying ty = some D) (hd : D.isRow = true) (hz : (Tryd.prog.info? ty).map (·.size) = some e.2.2.size) :
    OpGhost Tryd.prog md ops Q (GM w0 L M) F i ⟨dst, .load ty x, ty', pos, aft, gd⟩ :=
  OpGhost.take (v := fun _ => .agg e.2.2) hw hp (fun g _ w h _ => ⟨run_load_blk (hx g) (h.held.get j hj) hu hd hz, h.call hi (Below.refl _ w)⟩)
theorem gm_plain {o : Oper} {v : (Nat → Nat) → Value} (hi : M.all (fun x => x.1 != i) = true) (hw : ∀ g, Region.wanted o (yielded ops (F g).tmps) = true) (hp : ∀ g, (F g).put o.dst (v g) = F g)
    (hr : ∀ g w, (execOp (F g).eval o).run Tryd.prog w = .ok (.value (v g)) w) : OpGhost Tryd.prog md ops Q (GM w0 L M) F i o :=
  OpGhost.take (v := v) hw hp (fun g _ w h _ => ⟨hr g w, h.call hi (Below.refl _ w)⟩)
theorem gm_skip {o : Oper} (hi : M.all (fun x => x.1 != i) = true) (hw : ∀ g, Region.wanted o (yielded ops (F g).tmps) = false) (hp : ∀ g, (F g).put o.dst undef = F g) : OpGhost Tryd.prog md ops Q (GM w0 L M) F i o := fun g _ w h _ _ => by
  rw [if_neg (by rw [hw g]; decide)]
  exact ⟨hp g, h.call hi (Below.refl _ w)⟩
/-- an operation that reads a block that the region makes -/
theorem gm_reads {o : Oper} {v : Value} (j : Nat) {e : Nat × TypeId × Array Value} (hj : M[j]? = some e) (hi : M.all (fun x => x.1 != i) = true) (hw : ∀ g, Region.wanted o (yielded ops (F g).tmps) = true) (hp : ∀ g, (F g).put o.dst v = F g)
    (he : (o.after.any fun x => Region.binds md x && x.on == e.1) = true) (hr : ∀ g w, Blk w (g e.1) e.2.1 e.2.2 → (execOp (F g).eval o).run Tryd.prog w = .ok (.value v) w) : OpGhost Tryd.prog md ops Q (GM w0 L M) F i o :=
  OpGhost.take (v := fun _ => v) hw hp (fun g d w h haft => by
    obtain ⟨m, hm, h3⟩ := Array.any_eq_true.1 he
    rw [Bool.and_eq_true, beq_iff_eq] at h3
    have hd : d e.1 = true := by rw [← h3.2]; exact haft _ (Array.getElem_mem hm) h3.1
    exact ⟨hr g w (h.get j hj hd), h.call hi (Below.refl _ w)⟩)
theorem gm_call {f : FuncId} {xs : Array Operand} {ats : Array TypeId} {v : Value} (hi : M.all (fun x => x.1 != i) = true)
    (hw : ∀ g, Region.wanted ⟨dst, .call { callee := .value (.func f), args := xs, argTypes := ats }, ty, pos, aft, gd⟩ (yielded ops (F g).tmps) = true) (hp : ∀ g, (F g).put dst v = F g)
    (hr : ∀ args w, (callFunc f args).run Tryd.prog w = .ok (.enter f args) w) (args : Array Value) (ha : ∀ g, #[] ++ xs.map (F g).eval ++ #[] = args)
    (hc : ∀ w, HA w0 L w → Calls Tryd.prog f args w fun e w' => e = .returned v ∧ Below w.heap.size w w') :
    OpGhost Tryd.prog md ops Q (GM w0 L M) F i ⟨dst, .call { callee := .value (.func f), args := xs, argTypes := ats }, ty, pos, aft, gd⟩ :=
  OpGhost.call (v := fun _ => v) (args := fun _ => args) hw hp (fun g w => by rw [execOp_call_go, ha g]; exact hr _ w) (fun _ _ w hS _ => (hc w hS.held).mono fun _ _ h => ⟨h.1, hS.call hi h.2⟩)
theorem gm_make {o : Oper} {t : TypeId} {c : Array Value} (v : Nat → Value) (hi : M.all (fun x => x.1 != i || (decide (x.2.1 = t))) = true) (hc : ∀ x ∈ M, x.1 = i → x.2.2 = c) (hw : ∀ g, Region.wanted o (yielded ops (F g).tmps) = true)
    (hp : ∀ g (m : Nat), (F g).put o.dst (v m) = F (up g i m)) (hr : ∀ g w, (execOp (F g).eval o).run Tryd.prog w = .ok (.value (v w.heap.size)) (w.alloc (.cells c t))) : OpGhost Tryd.prog md ops Q (GM w0 L M) F i o :=
  OpGhost.act (v := fun _ w => v w.heap.size) (n := fun _ w => w.heap.size) (W := fun _ w => w.alloc (.cells c t)) hw (fun g w => hp g w.heap.size) (fun g _ w h _ _ => ⟨hr g w, h.make hi hc⟩)
end
/-- a loop whose measure gets less -/
theorem rounds_more {P : Program} {Q : Exit → Act → World → Prop} {c : Code} : ∀ (n : Nat) (a : Act) (w : World), Code.rounds P c Q n a w → Code.rounds P c Q (n + 1) a w
  | 0, _, _, h => h.elim
  | n + 1, a, w, h => by
    rw [rounds_succ] at h ⊢
    exact Code.wp_mono (fun e a w he => by cases e <;> first | exact rounds_more n a w he | exact he) h
theorem rounds_le {P : Program} {Q : Exit → Act → World → Prop} {c : Code} {n m : Nat} (h : n ≤ m) {a : Act} {w : World} (hr : Code.rounds P c Q n a w) : Code.rounds P c Q m a w := by
  induction h with
  | refl => exact hr
  | step _ ih => exact rounds_more _ _ _ ih
theorem wp_while {P : Program} {Q : Exit → Act → World → Prop} {c : Code} (I : Nat → Act → World → Prop) (m : Nat) {a : Act} {w : World} (h0 : I m a w)
    (round : ∀ m a w, I m a w → c.wp P (Exit.then (fun a' w' => ∃ m', m' < m ∧ I m' a' w') Q) a w) : (Code.loop c).wp P Q a w := by
  have key : ∀ m a w, I m a w → Code.rounds P c Q (m + 1) a w := by
    intro m
    induction m using Nat.strongRecOn with
    | ind m ih =>
      intro a w hI
      rw [rounds_succ]
      refine Code.wp_mono (fun e a w he => ?_) (round m a w hI)
      cases e with
      | normal =>
        obtain ⟨m', hm, h'⟩ := he
        exact rounds_le hm (ih m' hm a w h')
      | _ => exact he
  exact wp_loop_rounds (m + 1) (key m a w h0)
theorem run_callv {ρ : Operand → Value} {x : Operand} {xs : Array Operand} {ats : Array TypeId} {w : World} {dst : Option Tmp} {ty : TypeId} {pos : String} {aft : Array Edge} {gd : Option (Nat × Bool)} {f : FuncId} {cap args : Array Value}
    (hr : ∀ args w, (callFunc f args).run Tryd.prog w = .ok (.enter f args) w) (hx : ρ x = .func (.func f) #[] cap) (ha : #[] ++ xs.map ρ ++ cap = args) :
    (execOp ρ ⟨dst, .call { callee := .value x, args := xs, argTypes := ats }, ty, pos, aft, gd⟩).run Tryd.prog w = .ok (.enter f args) w := by
  subst ha
  simp only [execOp, resolve, hx, invoke, Deferred.ofValue, Sem.run_bind, Sem.run_pure, Result.andThen_ok]
  exact hr _ w
theorem up_true {d : Nat → Bool} {i m : Nat} (h : d m = true) : up d i true m = true := by
  by_cases e : m = i
  · rw [e]; exact up_at _ _ _
  · rw [up_ne _ _ e]; exact h
/-- pre: who comes ahead of whom -/
def Cl (pre : Nat → List Nat) (d : Nat → Bool) : Prop := ∀ i, d i = true → ∀ m ∈ pre i, d m = true
def ahead (aft : Array Edge) (l : List Nat) : Bool := l.all fun m => aft.any fun e => Region.binds .any e && e.on == m
theorem ahead_ok {aft : Array Edge} {l : List Nat} {d : Nat → Bool} (he : ahead aft l = true) (haft : ∀ e ∈ aft, Region.binds .any e = true → d e.on = true) : ∀ m ∈ l, d m = true := fun m hm => by
  obtain ⟨k, hk, h3⟩ := Array.any_eq_true.1 (List.all_eq_true.1 he m hm)
  rw [Bool.and_eq_true, beq_iff_eq] at h3
  rw [← h3.2]
  exact haft _ (Array.getElem_mem hk) h3.1
theorem Cl.up {pre : Nat → List Nat} {d : Nat → Bool} {i : Nat} (h : Cl pre d) (hm : ∀ m ∈ pre i, d m = true) : Cl pre (up d i true) := fun i' h' m hm' => by
  by_cases e : i' = i
  · rw [e] at hm'; exact up_true (hm m hm')
  · rw [up_ne _ _ e] at h'; exact up_true (h i' h' m hm')
theorem Cl.start {ll : List (List Nat)} {n : Nat} {d : Nat → Bool} (hd : ∀ j, j < n → d j = false) (hn : ll.length ≤ n) : Cl (fun i => ll.getD i []) d := fun i h m hm => by
  by_cases hi : i < ll.length
  · rw [hd i (Nat.lt_of_lt_of_le hi hn)] at h; cases h
  · have hm2 : m ∈ ll.getD i [] := hm
    rw [List.getD_eq_getElem?_getD, List.getElem?_eq_none (Nat.le_of_not_lt hi)] at hm2; cases hm2
section
variable {ops : Array Oper} {Q : Exit → Act → World → Prop} {F : (Nat → Nat) → Act} {md : Region.Mode} {i i0 i1 j q : Nat} {w0 : World} {L M : List (Nat × TypeId × Array Value)} {B k a0 t0 : Nat} {t : TypeId} {z c : Array Value} {val : Nat → Array Value}
/-- an operation that reads what is held -/
theorem ghost_held {o : Oper} {v : Value} (hi : ∀ m, m < k → i ≠ a0 + m ∧ i ≠ t0 + m) (hw : ∀ g, Region.wanted o (yielded ops (F g).tmps) = true) (hp : ∀ g, (F g).put o.dst v = F g)
    (hr : ∀ g w, HA w0 L w → (execOp (F g).eval o).run Tryd.prog w = .ok (.value v) w) : OpGhost Tryd.prog md ops Q (GS w0 L B k a0 t0 t z val) F i o :=
  OpGhost.take (v := fun _ => v) hw hp (fun g _ w h _ => ⟨hr g w h.held, h.load hi⟩)
end

/-- a region that draws its order and changes one block, by number i0; who reads it ahead is ahead by data -/
structure GQ (w0 : World) (L : List (Nat × TypeId × Array Value)) (pre : Nat → List Nat) (i0 j q : Nat) (t : TypeId) (c : Array Value) (g : Nat → Nat) (d : Nat → Bool) (w : World) : Prop where
  held : HA w0 (if d i0 = true then L.set j (q, t, c) else L) w
  seen : Cl pre d
section
variable {ops : Array Oper} {Q : Exit → Act → World → Prop} {F : (Nat → Nat) → Act} {i i0 j q : Nat} {dst : Option Tmp} {T ty : TypeId} {pos : String} {aft : Array Edge} {gd : Option (Nat × Bool)}
  {w0 : World} {L : List (Nat × TypeId × Array Value)} {t : TypeId} {c : Array Value} {pre : Nat → List Nat}
theorem GQ.keep {g : Nat → Nat} {d : Nat → Bool} {w w' : World} (h : GQ w0 L pre i0 j q t c g d w) (hi : i ≠ i0) (hm : ∀ m ∈ pre i, d m = true) (hb : Below w.heap.size w w') : GQ w0 L pre i0 j q t c g (up d i true) w' :=
  ⟨by rw [up_ne _ _ (Ne.symm hi)]; exact h.held.keep _ _ hb, h.seen.up hm⟩
theorem gq_plain {o : Oper} {v : Value} (hi : i ≠ i0) (he : ahead o.after (pre i) = true) (hw : ∀ g, Region.wanted o (yielded ops (F g).tmps) = true) (hp : ∀ g, (F g).put o.dst v = F g)
    (hr : ∀ g w, (execOp (F g).eval o).run Tryd.prog w = .ok (.value v) w) : OpGhost Tryd.prog .any ops Q (GQ w0 L pre i0 j q t c) F i o :=
  OpGhost.take (v := fun _ => v) hw hp (fun g _ w h ha => ⟨hr g w, h.keep hi (ahead_ok he ha) (Below.refl _ w)⟩)
/-- what reads a block: another one, or ahead of the change -/
theorem gq_read {o : Oper} {v : Value} {e : Nat × TypeId × Array Value} (m : Nat) (hm : L[m]? = some e) (h0 : j ≠ m ∨ ∀ d, Cl pre d → d i0 = true → d i = true) (hi : i ≠ i0) (he : ahead o.after (pre i) = true) (hw : ∀ g, Region.wanted o (yielded ops (F g).tmps) = true) (hp : ∀ g, (F g).put o.dst v = F g)
    (hr : ∀ g w, Blk w e.1 e.2.1 e.2.2 → (execOp (F g).eval o).run Tryd.prog w = .ok (.value v) w) : OpGhost Tryd.prog .any ops Q (GQ w0 L pre i0 j q t c) F i o := fun g d w h hdi ha => by
  rw [if_pos (hw g)]
  unfold Oper.wp
  have hB : Blk w e.1 e.2.1 e.2.2 := by
    have hH := h.held
    rcases h0 with h0 | h0
    · split at hH
      · exact hH.get m (by rw [List.getElem?_set_ne h0]; exact hm)
      · exact hH.get m hm
    · rw [if_neg fun h' => by rw [h0 d h.seen h'] at hdi; cases hdi] at hH
      exact hH.get m hm
  rw [hr g w hB]
  exact ⟨g i, by rw [up_self]; exact hp g, by rw [up_self]; exact h.keep hi (ahead_ok he ha) (Below.refl _ w)⟩
theorem gq_old {o : Oper} {v : Value} (hi : i ≠ i0) (he : ahead o.after (pre i) = true) (hw : ∀ g, Region.wanted o (yielded ops (F g).tmps) = true) (hp : ∀ g, (F g).put o.dst v = F g)
    (hr : ∀ g w, Below w0.heap.size w0 w → (execOp (F g).eval o).run Tryd.prog w = .ok (.value v) w) : OpGhost Tryd.prog .any ops Q (GQ w0 L pre i0 j q t c) F i o :=
  OpGhost.take (v := fun _ => v) hw hp (fun g _ w h ha => ⟨hr g w h.held.old, h.keep hi (ahead_ok he ha) (Below.refl _ w)⟩)
theorem gq_call {f : FuncId} {xs : Array Operand} {ats : Array TypeId} {v : Value} (hi : i ≠ i0) (he : ahead aft (pre i) = true)
    (hw : ∀ g, Region.wanted ⟨dst, .call { callee := .value (.func f), args := xs, argTypes := ats }, ty, pos, aft, gd⟩ (yielded ops (F g).tmps) = true) (hp : ∀ g, (F g).put dst v = F g)
    (hr : ∀ args w, (callFunc f args).run Tryd.prog w = .ok (.enter f args) w) (args : Array Value) (ha : ∀ g, #[] ++ xs.map (F g).eval ++ #[] = args)
    (hc : ∀ w, Below w0.heap.size w0 w → Calls Tryd.prog f args w fun e w' => e = .returned v ∧ Below w.heap.size w w') :
    OpGhost Tryd.prog .any ops Q (GQ w0 L pre i0 j q t c) F i ⟨dst, .call { callee := .value (.func f), args := xs, argTypes := ats }, ty, pos, aft, gd⟩ :=
  OpGhost.call (v := fun _ => v) (args := fun _ => args) hw hp (fun g w => by rw [execOp_call_go, ha g]; exact hr _ w) (fun _ _ w hS h' => (hc w hS.held.old).mono fun _ _ h => ⟨h.1, hS.keep hi (ahead_ok he h') h.2⟩)
theorem gq_put {x y : Operand} {k : IntKind} {z : Int} {c0 : Array Value} {off : Nat} (hL : L[j]? = some (q, t, c0)) (hoff : off < c0.size) (hc : c0.setIfInBounds off (.int k z) = c) (hs : ∀ w, (sizeOf T).run Tryd.prog w = .ok 1 w) (he : ahead aft (pre i0) = true)
    (hw : ∀ g, Region.wanted ⟨dst, .store T x y, ty, pos, aft, gd⟩ (yielded ops (F g).tmps) = true) (hp : ∀ g, (F g).put dst undef = F g) (hx : ∀ g, (F g).eval x = .pointer (some ⟨q, off, none⟩)) (hy : ∀ g, (F g).eval y = .int k z) :
    OpGhost Tryd.prog .any ops Q (GQ w0 L pre i0 j q t c) F i0 ⟨dst, .store T x y, ty, pos, aft, gd⟩ :=
  OpGhost.skips (W := fun _ w => w.setCell ⟨q, off, none⟩ (.int k z)) hw hp (fun g d w h hd ha => by
    have hH := h.held
    rw [if_neg (by rw [hd]; decide)] at hH
    refine ⟨run_store1 hs (hx g) (hy g) (by rw [(hH.get j hL).cell off]; simp [hoff]) ((hH.get j hL).free off hoff), ?_, h.seen.up (ahead_ok he ha)⟩
    rw [up_at, if_pos rfl]
    have := hH.put j hL off (.int k z)
    rw [hc] at this
    exact this)
theorem GQ.start {g : Nat → Nat} {d : Nat → Bool} {w : World} (h : HA w0 L w) (hd : d i0 = false) (hc : Cl pre d) : GQ w0 L pre i0 j q t c g d w := ⟨by rw [hd]; exact h, hc⟩
end

/-- two changes, one behind the other: by number i0, then by number i1 -/
structure GE (w0 : World) (L : List (Nat × TypeId × Array Value)) (L1 L2 : (Nat → Nat) → List (Nat × TypeId × Array Value)) (pre : Nat → List Nat) (i0 i1 : Nat) (g : Nat → Nat) (d : Nat → Bool) (w : World) : Prop where
  held : HA w0 (if d i1 = true then L2 g else if d i0 = true then L1 g else L) w
  seen : Cl pre d
section
variable {ops : Array Oper} {Q : Exit → Act → World → Prop} {F : (Nat → Nat) → Act} {i i0 i1 : Nat} {dst : Option Tmp} {T ty : TypeId} {pos : String} {aft : Array Edge} {gd : Option (Nat × Bool)}
  {w0 : World} {L : List (Nat × TypeId × Array Value)} {L1 L2 : (Nat → Nat) → List (Nat × TypeId × Array Value)} {pre : Nat → List Nat}
theorem GE.keep {g : Nat → Nat} {d : Nat → Bool} {w : World} (h : GE w0 L L1 L2 pre i0 i1 g d w) (hi : i ≠ i0) (hi1 : i ≠ i1) (hm : ∀ m ∈ pre i, d m = true) : GE w0 L L1 L2 pre i0 i1 g (up d i true) w :=
  ⟨by rw [up_ne _ _ (Ne.symm hi), up_ne _ _ (Ne.symm hi1)]; exact h.held, h.seen.up hm⟩
theorem ge_plain {o : Oper} {v : Value} (hi : i ≠ i0) (hi1 : i ≠ i1) (he : ahead o.after (pre i) = true) (hw : ∀ g, Region.wanted o (yielded ops (F g).tmps) = true) (hp : ∀ g, (F g).put o.dst v = F g)
    (hr : ∀ g w, (execOp (F g).eval o).run Tryd.prog w = .ok (.value v) w) : OpGhost Tryd.prog .any ops Q (GE w0 L L1 L2 pre i0 i1) F i o :=
  OpGhost.take (v := fun _ => v) hw hp (fun g _ w h ha => ⟨hr g w, h.keep hi hi1 (ahead_ok he ha)⟩)
/-- what reads ahead of both -/
theorem ge_read {o : Oper} {v : Value} (hi : i ≠ i0) (hi1 : i ≠ i1) (h0 : ∀ d, Cl pre d → d i0 = true → d i = true) (h10 : i0 ∈ pre i1) (he : ahead o.after (pre i) = true) (hw : ∀ g, Region.wanted o (yielded ops (F g).tmps) = true) (hp : ∀ g, (F g).put o.dst v = F g)
    (hr : ∀ g w, HA w0 L w → (execOp (F g).eval o).run Tryd.prog w = .ok (.value v) w) : OpGhost Tryd.prog .any ops Q (GE w0 L L1 L2 pre i0 i1) F i o := fun g d w h hdi ha => by
  rw [if_pos (hw g)]
  unfold Oper.wp
  have e0 : ¬ d i0 = true := fun h' => by rw [h0 d h.seen h'] at hdi; cases hdi
  have e1 : ¬ d i1 = true := fun h' => e0 (h.seen i1 h' i0 h10)
  have hH := h.held
  rw [if_neg e1, if_neg e0] at hH
  rw [hr g w hH]
  exact ⟨g i, by rw [up_self]; exact hp g, by rw [up_self]; exact h.keep hi hi1 (ahead_ok he ha)⟩
/-- the first change -/
theorem ge_act0 {o : Oper} {v : (Nat → Nat) → World → Value} {W : (Nat → Nat) → World → World} {n : (Nat → Nat) → World → Nat} (hii : i1 ≠ i0) (h10 : i0 ∈ pre i1) (he : ahead o.after (pre i0) = true) (hw : ∀ g, Region.wanted o (yielded ops (F g).tmps) = true)
    (hp : ∀ g w, (F g).put o.dst (v g w) = F (up g i0 (n g w)))
    (hr : ∀ g w, HA w0 L w → (execOp (F g).eval o).run Tryd.prog w = .ok (.value (v g w)) (W g w) ∧ HA w0 (L1 (up g i0 (n g w))) (W g w)) : OpGhost Tryd.prog .any ops Q (GE w0 L L1 L2 pre i0 i1) F i0 o := fun g d w h hdi ha => by
  rw [if_pos (hw g)]
  unfold Oper.wp
  have e0 : ¬ d i0 = true := by rw [hdi]; decide
  have e1 : ¬ d i1 = true := fun h' => e0 (h.seen i1 h' i0 h10)
  have hH := h.held
  rw [if_neg e1, if_neg e0] at hH
  rw [(hr g w hH).1]
  exact ⟨n g w, hp g w, by rw [up_ne _ _ hii, if_neg e1, up_at, if_pos rfl]; exact (hr g w hH).2, h.seen.up (ahead_ok he ha)⟩
/-- the second -/
theorem ge_act1 {o : Oper} {v : Value} {W : (Nat → Nat) → World → World} (h10 : i0 ∈ pre i1) (he : ahead o.after (pre i1) = true) (hw : ∀ g, Region.wanted o (yielded ops (F g).tmps) = true)
    (hp : ∀ g, (F g).put o.dst v = F g)
    (hr : ∀ g w, HA w0 (L1 g) w → (execOp (F g).eval o).run Tryd.prog w = .ok (.value v) (W g w) ∧ HA w0 (L2 g) (W g w)) : OpGhost Tryd.prog .any ops Q (GE w0 L L1 L2 pre i0 i1) F i1 o := fun g d w h hdi ha => by
  rw [if_pos (hw g)]
  unfold Oper.wp
  have e1 : ¬ d i1 = true := by rw [hdi]; decide
  have e0 : d i0 = true := ahead_ok he ha i0 h10
  have hH := h.held
  rw [if_neg e1, if_pos e0] at hH
  rw [(hr g w hH).1]
  exact ⟨g i1, by rw [up_self]; exact hp g, by rw [up_self, up_at, if_pos rfl]; exact (hr g w hH).2, h.seen.up (ahead_ok he ha)⟩
theorem ge_act1s {o : Oper} {W : (Nat → Nat) → World → World} (h10 : i0 ∈ pre i1) (he : ahead o.after (pre i1) = true) (hw : ∀ g, Region.wanted o (yielded ops (F g).tmps) = true)
    (hp : ∀ g, (F g).put o.dst undef = F g)
    (hr : ∀ g w, HA w0 (L1 g) w → (execOp (F g).eval o).run Tryd.prog w = .ok .skip (W g w) ∧ HA w0 (L2 g) (W g w)) : OpGhost Tryd.prog .any ops Q (GE w0 L L1 L2 pre i0 i1) F i1 o := fun g d w h hdi ha => by
  rw [if_pos (hw g)]
  unfold Oper.wp
  have e1 : ¬ d i1 = true := by rw [hdi]; decide
  have e0 : d i0 = true := ahead_ok he ha i0 h10
  have hH := h.held
  rw [if_neg e1, if_pos e0] at hH
  rw [(hr g w hH).1]
  exact ⟨g i1, by rw [up_self]; exact hp g, by rw [up_self, up_at, if_pos rfl]; exact (hr g w hH).2, h.seen.up (ahead_ok he ha)⟩
theorem GE.start {g : Nat → Nat} {d : Nat → Bool} {w : World} (h : HA w0 L w) (hd : d i0 = false) (hd1 : d i1 = false) (hc : Cl pre d) : GE w0 L L1 L2 pre i0 i1 g d w := ⟨by rw [hd, hd1]; exact h, hc⟩
end
end Go.Proofs.YtmlldbkhphngeaaDoor
