/-
  The base for hash's seat: calls and drawn regions, nothing of a law.
-/
import Derived.Test.YtefjnfeckenmkaaDoorB0
import Derived.BigCall
import Derived.Deep.OwnRows
import Derived.Laws.AppendOwn
import Derived.Laws.IdiomCopy
import Derived.Lib.AppendStr
import Derived.Laws.MakeOwn
import Derived.Lib.ConvBytes
namespace Go.Proofs.YtefjnfeckenmkaaDoor.Hh
open Go.RowKit

/-- a call that keeps old memory, as a sure operation -/
theorem sure_call {ops : Array Oper} {Q : Exit → Act → World → Prop} {S : World → Prop} {F : Act} {dst : Option Tmp} {f : FuncId} {xs : Array Operand} {ats : Array TypeId} {ty : TypeId} {pos : String} {aft : Array Edge} {gd : Option (Nat × Bool)} {v : Value}
    (hw : Region.wanted ⟨dst, .call { callee := .value (.func f), args := xs, argTypes := ats }, ty, pos, aft, gd⟩ (yielded ops F.tmps) = true) (hp : F.put dst v = F)
    (hr : ∀ args w, (callFunc f args).run Tryd.prog w = .ok (.enter f args) w) (hk : ∀ w w', S w → Below w.heap.size w w' → S w') (args : Array Value) (ha : #[] ++ xs.map F.eval ++ #[] = args)
    (hc : ∀ w, S w → Calls Tryd.prog f args w fun e w' => e = .returned v ∧ Below w.heap.size w w') :
    OpSure Tryd.prog ops Q S F ⟨dst, .call { callee := .value (.func f), args := xs, argTypes := ats }, ty, pos, aft, gd⟩ := by
  subst ha
  exact OpSure.call hw hp (fun w _ => by rw [execOp_call_go]; exact hr _ w) (fun w hS => (hc w hS).mono fun e w' h => ⟨h.1, hk w w' hS h.2⟩)
theorem enter17 (args : Array Value) (w : World) : (callFunc 42 args).run Tryd.prog w = .ok (.enter 42 args) w := by go_simp
theorem enter23 (args : Array Value) (w : World) : (callFunc 68 args).run Tryd.prog w = .ok (.enter 68 args) w := by go_simp
theorem enter25 (args : Array Value) (w : World) : (callFunc 65 args).run Tryd.prog w = .ok (.enter 65 args) w := by go_simp
theorem enter26 (args : Array Value) (w : World) : (callFunc 66 args).run Tryd.prog w = .ok (.enter 66 args) w := by go_simp
theorem enter27 (args : Array Value) (w : World) : (callFunc 67 args).run Tryd.prog w = .ok (.enter 67 args) w := by go_simp
theorem enter28 (args : Array Value) (w : World) : (callFunc 69 args).run Tryd.prog w = .ok (.enter 69 args) w := by go_simp
theorem enter32 (args : Array Value) (w : World) : (callFunc 80 args).run Tryd.prog w = .ok (.enter 80 args) w := by go_simp
theorem enter33 (args : Array Value) (w : World) : (callFunc 81 args).run Tryd.prog w = .ok (.enter 81 args) w := by go_simp
theorem enter34 (args : Array Value) (w : World) : (callFunc 82 args).run Tryd.prog w = .ok (.enter 82 args) w := by go_simp
theorem enter37 (args : Array Value) (w : World) : (callFunc 86 args).run Tryd.prog w = .ok (.enter 86 args) w := by go_simp
theorem enter38 (args : Array Value) (w : World) : (callFunc 87 args).run Tryd.prog w = .ok (.enter 87 args) w := by go_simp
/-! whole loads, new variables and their filling, words without world, in a region that makes variables -/
section
variable {ops : Array Oper} {Q : Exit → Act → World → Prop} {F : (Nat → Nat) → Act} {md : Region.Mode} {i : Nat} {dst : Option Tmp} {ty ty' : TypeId} {pos : String} {aft : Array Edge} {gd : Option (Nat × Bool)}
  {w0 : World} {L : List (Nat × TypeId × Array Value)} {B : Nat} {k a0 t0 : Nat} {t : TypeId} {z : Array Value} {val : Nat → Array Value}
theorem ghost_plain {o : Oper} {v : Value} (hi : ∀ m, m < k → i ≠ a0 + m ∧ i ≠ t0 + m) (hw : ∀ g, Region.wanted o (yielded ops (F g).tmps) = true) (hp : ∀ g, (F g).put o.dst v = F g)
    (hr : ∀ g w, (execOp (F g).eval o).run Tryd.prog w = .ok (.value v) w) : OpGhost Tryd.prog md ops Q (GS w0 L B k a0 t0 t z val) F i o :=
  OpGhost.take (v := fun _ => v) hw hp (fun g _ w h _ => ⟨hr g w, h.load hi⟩)
theorem ghost_call {f : FuncId} {xs : Array Operand} {ats : Array TypeId} {v : Value} (hi : ∀ m, m < k → i ≠ a0 + m ∧ i ≠ t0 + m)
    (hw : ∀ g, Region.wanted ⟨dst, .call { callee := .value (.func f), args := xs, argTypes := ats }, ty, pos, aft, gd⟩ (yielded ops (F g).tmps) = true) (hp : ∀ g, (F g).put dst v = F g)
    (hr : ∀ args w, (callFunc f args).run Tryd.prog w = .ok (.enter f args) w) (args : Array Value) (ha : ∀ g, #[] ++ xs.map (F g).eval ++ #[] = args)
    (hc : ∀ w, HA w0 L w → Calls Tryd.prog f args w fun e w' => e = .returned v ∧ Below w.heap.size w w') :
    OpGhost Tryd.prog md ops Q (GS w0 L B k a0 t0 t z val) F i ⟨dst, .call { callee := .value (.func f), args := xs, argTypes := ats }, ty, pos, aft, gd⟩ :=
  OpGhost.call (v := fun _ => v) (args := fun _ => args) hw hp (fun g w => by rw [execOp_call_go, ha g]; exact hr _ w) (fun _ _ w hS _ => (hc w hS.held).mono fun _ _ h => ⟨h.1, hS.call hi h.2⟩)
theorem ghost_make (j : Nat) (hj : j < k) (hi : i = a0 + j)
    (hw : ∀ g, Region.wanted ⟨dst, .alloc ty, ty', pos, aft, gd⟩ (yielded ops (F g).tmps) = true) (hp : ∀ g (m : Nat), (F g).put dst (.pointer (some ⟨m, 0, none⟩)) = F (up g i m))
    (hr : ∀ (ρ : Operand → Value) (w : World), (execOp ρ ⟨dst, .alloc ty, ty', pos, aft, gd⟩).run Tryd.prog w = .ok (.value (.pointer (some ⟨w.heap.size, 0, none⟩))) (w.alloc (.cells z ty))) :
    OpGhost Tryd.prog md ops Q (GS w0 L B k a0 t0 ty z val) F i ⟨dst, .alloc ty, ty', pos, aft, gd⟩ :=
  OpGhost.act (v := fun _ w => .pointer (some ⟨w.heap.size, 0, none⟩)) (n := fun _ w => w.heap.size) (W := fun _ w => w.alloc (.cells z ty)) hw (fun g w => hp g w.heap.size) (fun _ _ w h hd _ => ⟨hr _ w, h.make hj hi hd⟩)
theorem ghost_fill {x y : Operand} (j : Nat) (hj : j < k) (hi : i = t0 + j)
    (hw : ∀ g, Region.wanted ⟨dst, .store ty x y, ty', pos, aft, gd⟩ (yielded ops (F g).tmps) = true) (hp : ∀ g, (F g).put dst undef = F g)
    (hx : ∀ g, (F g).eval x = .pointer (some ⟨g (a0 + j), 0, none⟩)) (hy : ∀ g, (F g).eval y = .agg (val j)) (hz : (Tryd.prog.info? ty).map (·.size) = some (val j).size) (h1 : (val j).all (·.oneCell') = true)
    (he : (aft.any fun e => Region.binds .any e && e.on == a0 + j) = true) :
    OpGhost Tryd.prog .any ops Q (GS w0 L B k a0 t0 ty z val) F i ⟨dst, .store ty x y, ty', pos, aft, gd⟩ :=
  OpGhost.skips (W := fun g w => w.setCells (g (a0 + j)) 0 (val j).toList) hw hp (fun g d w h hd haft => by
    obtain ⟨m, hm, h3⟩ := Array.any_eq_true.1 he
    rw [Bool.and_eq_true, beq_iff_eq] at h3
    have ha : d (a0 + j) = true := by rw [← h3.2]; exact haft _ (Array.getElem_mem hm) h3.1
    have hb := (h.new.own j hj ha).2
    have hT : d (t0 + j) = false := hi ▸ hd
    rw [hT, if_neg (by decide)] at hb
    exact ⟨run_store_blk (hx g) (hy g) hb (h.siz j hj) hz h1, h.fill hj hi hd ha⟩)
end
section
variable {ops : Array Oper} {Q : Exit → Act → World → Prop} {F : (Nat → Nat) → Act} {md : Region.Mode} {i : Nat} {dst : Option Tmp} {ty ty' : TypeId} {pos : String} {aft : Array Edge} {gd : Option (Nat × Bool)}
  {w0 : World} {L M : List (Nat × TypeId × Array Value)}
end
/-- a loop whose measure gets less -/
theorem rounds_more {P : Program} {Q : Exit → Act → World → Prop} {c : Code} : ∀ (n : Nat) (a : Act) (w : World), Code.rounds P c Q n a w → Code.rounds P c Q (n + 1) a w
  | 0, _, _, h => h.elim
  | n + 1, a, w, h => by
    rw [rounds_succ] at h ⊢
    exact Code.wp_mono (fun e a w he => by cases e <;> first | exact rounds_more n a w he | exact he) h
theorem rounds_le {P : Program} {Q : Exit → Act → World → Prop} {c : Code} {n m : Nat} (h : n ≤ m) {a : Act} {w : World} (hr : Code.rounds P c Q n a w) : Code.rounds P c Q m a w := by
  induction h with
  | refl => exact hr
  | step _ ih => exact rounds_more _ _ _ ih
theorem wp_while {P : Program} {Q : Exit → Act → World → Prop} {c : Code} (I : Nat → Act → World → Prop) (m : Nat) {a : Act} {w : World} (h0 : I m a w)
    (round : ∀ m a w, I m a w → c.wp P (Exit.then (fun a' w' => ∃ m', m' < m ∧ I m' a' w') Q) a w) : (Code.loop c).wp P Q a w := by
  have key : ∀ m a w, I m a w → Code.rounds P c Q (m + 1) a w := by
    intro m
    induction m using Nat.strongRecOn with
    | ind m ih =>
      intro a w hI
      rw [rounds_succ]
      refine Code.wp_mono (fun e a w he => ?_) (round m a w hI)
      cases e with
      | normal =>
        obtain ⟨m', hm, h'⟩ := he
        exact rounds_le hm (ih m' hm a w h')
      | _ => exact he
  exact wp_loop_rounds (m + 1) (key m a w h0)
theorem run_callv {ρ : Operand → Value} {x : Operand} {xs : Array Operand} {ats : Array TypeId} {w : World} {dst : Option Tmp} {ty : TypeId} {pos : String} {aft : Array Edge} {gd : Option (Nat × Bool)} {f : FuncId} {cap args : Array Value}
    (hr : ∀ args w, (callFunc f args).run Tryd.prog w = .ok (.enter f args) w) (hx : ρ x = .func (.func f) #[] cap) (ha : #[] ++ xs.map ρ ++ cap = args) :
    (execOp ρ ⟨dst, .call { callee := .value x, args := xs, argTypes := ats }, ty, pos, aft, gd⟩).run Tryd.prog w = .ok (.enter f args) w := by
  subst ha
  simp only [execOp, resolve, hx, invoke, Deferred.ofValue, Sem.run_bind, Sem.run_pure, Result.andThen_ok]
  exact hr _ w
theorem up_true {d : Nat → Bool} {i m : Nat} (h : d m = true) : up d i true m = true := by
  by_cases e : m = i
  · rw [e]; exact up_at _ _ _
  · rw [up_ne _ _ e]; exact h
/-- pre: who comes ahead of whom -/
def Cl (pre : Nat → List Nat) (d : Nat → Bool) : Prop := ∀ i, d i = true → ∀ m ∈ pre i, d m = true
def ahead (aft : Array Edge) (l : List Nat) : Bool := l.all fun m => aft.any fun e => Region.binds .any e && e.on == m
theorem ahead_ok {aft : Array Edge} {l : List Nat} {d : Nat → Bool} (he : ahead aft l = true) (haft : ∀ e ∈ aft, Region.binds .any e = true → d e.on = true) : ∀ m ∈ l, d m = true := fun m hm => by
  obtain ⟨k, hk, h3⟩ := Array.any_eq_true.1 (List.all_eq_true.1 he m hm)
  rw [Bool.and_eq_true, beq_iff_eq] at h3
  rw [← h3.2]
  exact haft _ (Array.getElem_mem hk) h3.1
theorem Cl.up {pre : Nat → List Nat} {d : Nat → Bool} {i : Nat} (h : Cl pre d) (hm : ∀ m ∈ pre i, d m = true) : Cl pre (up d i true) := fun i' h' m hm' => by
  by_cases e : i' = i
  · rw [e] at hm'; exact up_true (hm m hm')
  · rw [up_ne _ _ e] at h'; exact up_true (h i' h' m hm')
theorem Cl.start {ll : List (List Nat)} {n : Nat} {d : Nat → Bool} (hd : ∀ j, j < n → d j = false) (hn : ll.length ≤ n) : Cl (fun i => ll.getD i []) d := fun i h m hm => by
  by_cases hi : i < ll.length
  · rw [hd i (Nat.lt_of_lt_of_le hi hn)] at h; cases h
  · have hm2 : m ∈ ll.getD i [] := hm
    rw [List.getD_eq_getElem?_getD, List.getElem?_eq_none (Nat.le_of_not_lt hi)] at hm2; cases hm2
section
variable {ops : Array Oper} {Q : Exit → Act → World → Prop} {F : (Nat → Nat) → Act} {md : Region.Mode} {i i0 i1 j q : Nat} {w0 : World} {L M : List (Nat × TypeId × Array Value)} {B k a0 t0 : Nat} {t : TypeId} {z c : Array Value} {val : Nat → Array Value}
/-- an operation that reads what is held -/
theorem ghost_held {o : Oper} {v : Value} (hi : ∀ m, m < k → i ≠ a0 + m ∧ i ≠ t0 + m) (hw : ∀ g, Region.wanted o (yielded ops (F g).tmps) = true) (hp : ∀ g, (F g).put o.dst v = F g)
    (hr : ∀ g w, HA w0 L w → (execOp (F g).eval o).run Tryd.prog w = .ok (.value v) w) : OpGhost Tryd.prog md ops Q (GS w0 L B k a0 t0 t z val) F i o :=
  OpGhost.take (v := fun _ => v) hw hp (fun g _ w h _ => ⟨hr g w h.held, h.load hi⟩)
end

/-- a region that draws its order and changes one block, by number i0; who reads it ahead is ahead by data -/
structure GQ (w0 : World) (L : List (Nat × TypeId × Array Value)) (pre : Nat → List Nat) (i0 j q : Nat) (t : TypeId) (c : Array Value) (g : Nat → Nat) (d : Nat → Bool) (w : World) : Prop where
  held : HA w0 (if d i0 = true then L.set j (q, t, c) else L) w
  seen : Cl pre d
section
variable {ops : Array Oper} {Q : Exit → Act → World → Prop} {F : (Nat → Nat) → Act} {i i0 j q : Nat} {dst : Option Tmp} {T ty : TypeId} {pos : String} {aft : Array Edge} {gd : Option (Nat × Bool)}
  {w0 : World} {L : List (Nat × TypeId × Array Value)} {t : TypeId} {c : Array Value} {pre : Nat → List Nat}
theorem GQ.keep {g : Nat → Nat} {d : Nat → Bool} {w w' : World} (h : GQ w0 L pre i0 j q t c g d w) (hi : i ≠ i0) (hm : ∀ m ∈ pre i, d m = true) (hb : Below w.heap.size w w') : GQ w0 L pre i0 j q t c g (up d i true) w' :=
  ⟨by rw [up_ne _ _ (Ne.symm hi)]; exact h.held.keep _ _ hb, h.seen.up hm⟩
theorem gq_plain {o : Oper} {v : Value} (hi : i ≠ i0) (he : ahead o.after (pre i) = true) (hw : ∀ g, Region.wanted o (yielded ops (F g).tmps) = true) (hp : ∀ g, (F g).put o.dst v = F g)
    (hr : ∀ g w, (execOp (F g).eval o).run Tryd.prog w = .ok (.value v) w) : OpGhost Tryd.prog .any ops Q (GQ w0 L pre i0 j q t c) F i o :=
  OpGhost.take (v := fun _ => v) hw hp (fun g _ w h ha => ⟨hr g w, h.keep hi (ahead_ok he ha) (Below.refl _ w)⟩)
/-- what reads a block: another one, or ahead of the change -/
theorem gq_read {o : Oper} {v : Value} {e : Nat × TypeId × Array Value} (m : Nat) (hm : L[m]? = some e) (h0 : j ≠ m ∨ ∀ d, Cl pre d → d i0 = true → d i = true) (hi : i ≠ i0) (he : ahead o.after (pre i) = true) (hw : ∀ g, Region.wanted o (yielded ops (F g).tmps) = true) (hp : ∀ g, (F g).put o.dst v = F g)
    (hr : ∀ g w, Blk w e.1 e.2.1 e.2.2 → (execOp (F g).eval o).run Tryd.prog w = .ok (.value v) w) : OpGhost Tryd.prog .any ops Q (GQ w0 L pre i0 j q t c) F i o := fun g d w h hdi ha => by
  rw [if_pos (hw g)]
  unfold Oper.wp
  have hB : Blk w e.1 e.2.1 e.2.2 := by
    have hH := h.held
    rcases h0 with h0 | h0
    · split at hH
      · exact hH.get m (by rw [List.getElem?_set_ne h0]; exact hm)
      · exact hH.get m hm
    · rw [if_neg fun h' => by rw [h0 d h.seen h'] at hdi; cases hdi] at hH
      exact hH.get m hm
  rw [hr g w hB]
  exact ⟨g i, by rw [up_self]; exact hp g, by rw [up_self]; exact h.keep hi (ahead_ok he ha) (Below.refl _ w)⟩
theorem gq_call {f : FuncId} {xs : Array Operand} {ats : Array TypeId} {v : Value} (hi : i ≠ i0) (he : ahead aft (pre i) = true)
    (hw : ∀ g, Region.wanted ⟨dst, .call { callee := .value (.func f), args := xs, argTypes := ats }, ty, pos, aft, gd⟩ (yielded ops (F g).tmps) = true) (hp : ∀ g, (F g).put dst v = F g)
    (hr : ∀ args w, (callFunc f args).run Tryd.prog w = .ok (.enter f args) w) (args : Array Value) (ha : ∀ g, #[] ++ xs.map (F g).eval ++ #[] = args)
    (hc : ∀ w, Below w0.heap.size w0 w → Calls Tryd.prog f args w fun e w' => e = .returned v ∧ Below w.heap.size w w') :
    OpGhost Tryd.prog .any ops Q (GQ w0 L pre i0 j q t c) F i ⟨dst, .call { callee := .value (.func f), args := xs, argTypes := ats }, ty, pos, aft, gd⟩ :=
  OpGhost.call (v := fun _ => v) (args := fun _ => args) hw hp (fun g w => by rw [execOp_call_go, ha g]; exact hr _ w) (fun _ _ w hS h' => (hc w hS.held.old).mono fun _ _ h => ⟨h.1, hS.keep hi (ahead_ok he h') h.2⟩)
theorem gq_put {x y : Operand} {k : IntKind} {z : Int} {c0 : Array Value} {off : Nat} (hL : L[j]? = some (q, t, c0)) (hoff : off < c0.size) (hc : c0.setIfInBounds off (.int k z) = c) (hs : ∀ w, (sizeOf T).run Tryd.prog w = .ok 1 w) (he : ahead aft (pre i0) = true)
    (hw : ∀ g, Region.wanted ⟨dst, .store T x y, ty, pos, aft, gd⟩ (yielded ops (F g).tmps) = true) (hp : ∀ g, (F g).put dst undef = F g) (hx : ∀ g, (F g).eval x = .pointer (some ⟨q, off, none⟩)) (hy : ∀ g, (F g).eval y = .int k z) :
    OpGhost Tryd.prog .any ops Q (GQ w0 L pre i0 j q t c) F i0 ⟨dst, .store T x y, ty, pos, aft, gd⟩ :=
  OpGhost.skips (W := fun _ w => w.setCell ⟨q, off, none⟩ (.int k z)) hw hp (fun g d w h hd ha => by
    have hH := h.held
    rw [if_neg (by rw [hd]; decide)] at hH
    refine ⟨run_store1 hs (hx g) (hy g) (by rw [(hH.get j hL).cell off]; simp [hoff]) ((hH.get j hL).free off hoff), ?_, h.seen.up (ahead_ok he ha)⟩
    rw [up_at, if_pos rfl]
    have := hH.put j hL off (.int k z)
    rw [hc] at this
    exact this)
theorem GQ.start {g : Nat → Nat} {d : Nat → Bool} {w : World} (h : HA w0 L w) (hd : d i0 = false) (hc : Cl pre d) : GQ w0 L pre i0 j q t c g d w := ⟨by rw [hd]; exact h, hc⟩
end

/-- two changes, one behind the other: by number i0, then by number i1 -/
structure GE (w0 : World) (L : List (Nat × TypeId × Array Value)) (L1 L2 : (Nat → Nat) → List (Nat × TypeId × Array Value)) (pre : Nat → List Nat) (i0 i1 : Nat) (g : Nat → Nat) (d : Nat → Bool) (w : World) : Prop where
  held : HA w0 (if d i1 = true then L2 g else if d i0 = true then L1 g else L) w
  seen : Cl pre d
section
variable {ops : Array Oper} {Q : Exit → Act → World → Prop} {F : (Nat → Nat) → Act} {i i0 i1 : Nat} {dst : Option Tmp} {T ty : TypeId} {pos : String} {aft : Array Edge} {gd : Option (Nat × Bool)}
  {w0 : World} {L : List (Nat × TypeId × Array Value)} {L1 L2 : (Nat → Nat) → List (Nat × TypeId × Array Value)} {pre : Nat → List Nat}
theorem GE.keep {g : Nat → Nat} {d : Nat → Bool} {w : World} (h : GE w0 L L1 L2 pre i0 i1 g d w) (hi : i ≠ i0) (hi1 : i ≠ i1) (hm : ∀ m ∈ pre i, d m = true) : GE w0 L L1 L2 pre i0 i1 g (up d i true) w :=
  ⟨by rw [up_ne _ _ (Ne.symm hi), up_ne _ _ (Ne.symm hi1)]; exact h.held, h.seen.up hm⟩
theorem ge_plain {o : Oper} {v : Value} (hi : i ≠ i0) (hi1 : i ≠ i1) (he : ahead o.after (pre i) = true) (hw : ∀ g, Region.wanted o (yielded ops (F g).tmps) = true) (hp : ∀ g, (F g).put o.dst v = F g)
    (hr : ∀ g w, (execOp (F g).eval o).run Tryd.prog w = .ok (.value v) w) : OpGhost Tryd.prog .any ops Q (GE w0 L L1 L2 pre i0 i1) F i o :=
  OpGhost.take (v := fun _ => v) hw hp (fun g _ w h ha => ⟨hr g w, h.keep hi hi1 (ahead_ok he ha)⟩)
/-- what reads ahead of both -/
theorem ge_read {o : Oper} {v : Value} (hi : i ≠ i0) (hi1 : i ≠ i1) (h0 : ∀ d, Cl pre d → d i0 = true → d i = true) (h10 : i0 ∈ pre i1) (he : ahead o.after (pre i) = true) (hw : ∀ g, Region.wanted o (yielded ops (F g).tmps) = true) (hp : ∀ g, (F g).put o.dst v = F g)
    (hr : ∀ g w, HA w0 L w → (execOp (F g).eval o).run Tryd.prog w = .ok (.value v) w) : OpGhost Tryd.prog .any ops Q (GE w0 L L1 L2 pre i0 i1) F i o := fun g d w h hdi ha => by
  rw [if_pos (hw g)]
  unfold Oper.wp
  have e0 : ¬ d i0 = true := fun h' => by rw [h0 d h.seen h'] at hdi; cases hdi
  have e1 : ¬ d i1 = true := fun h' => e0 (h.seen i1 h' i0 h10)
  have hH := h.held
  rw [if_neg e1, if_neg e0] at hH
  rw [hr g w hH]
  exact ⟨g i, by rw [up_self]; exact hp g, by rw [up_self]; exact h.keep hi hi1 (ahead_ok he ha)⟩
/-- the first change -/
theorem ge_act0 {o : Oper} {v : (Nat → Nat) → World → Value} {W : (Nat → Nat) → World → World} {n : (Nat → Nat) → World → Nat} (hii : i1 ≠ i0) (h10 : i0 ∈ pre i1) (he : ahead o.after (pre i0) = true) (hw : ∀ g, Region.wanted o (yielded ops (F g).tmps) = true)
    (hp : ∀ g w, (F g).put o.dst (v g w) = F (up g i0 (n g w)))
    (hr : ∀ g w, HA w0 L w → (execOp (F g).eval o).run Tryd.prog w = .ok (.value (v g w)) (W g w) ∧ HA w0 (L1 (up g i0 (n g w))) (W g w)) : OpGhost Tryd.prog .any ops Q (GE w0 L L1 L2 pre i0 i1) F i0 o := fun g d w h hdi ha => by
  rw [if_pos (hw g)]
  unfold Oper.wp
  have e0 : ¬ d i0 = true := by rw [hdi]; decide
  have e1 : ¬ d i1 = true := fun h' => e0 (h.seen i1 h' i0 h10)
  have hH := h.held
  rw [if_neg e1, if_neg e0] at hH
  rw [(hr g w hH).1]
  exact ⟨n g w, hp g w, by rw [up_ne _ _ hii, if_neg e1, up_at, if_pos rfl]; exact (hr g w hH).2, h.seen.up (ahead_ok he ha)⟩
theorem ge_act1s {o : Oper} {W : (Nat → Nat) → World → World} (h10 : i0 ∈ pre i1) (he : ahead o.after (pre i1) = true) (hw : ∀ g, Region.wanted o (yielded ops (F g).tmps) = true)
    (hp : ∀ g, (F g).put o.dst undef = F g)
    (hr : ∀ g w, HA w0 (L1 g) w → (execOp (F g).eval o).run Tryd.prog w = .ok .skip (W g w) ∧ HA w0 (L2 g) (W g w)) : OpGhost Tryd.prog .any ops Q (GE w0 L L1 L2 pre i0 i1) F i1 o := fun g d w h hdi ha => by
  rw [if_pos (hw g)]
  unfold Oper.wp
  have e1 : ¬ d i1 = true := by rw [hdi]; decide
  have e0 : d i0 = true := ahead_ok he ha i0 h10
  have hH := h.held
  rw [if_neg e1, if_pos e0] at hH
  rw [(hr g w hH).1]
  exact ⟨g i1, by rw [up_self]; exact hp g, by rw [up_self, up_at, if_pos rfl]; exact (hr g w hH).2, h.seen.up (ahead_ok he ha)⟩
theorem GE.start {g : Nat → Nat} {d : Nat → Bool} {w : World} (h : HA w0 L w) (hd : d i0 = false) (hd1 : d i1 = false) (hc : Cl pre d) : GE w0 L L1 L2 pre i0 i1 g d w := ⟨by rw [hd, hd1]; exact h, hc⟩
end
end Go.Proofs.YtefjnfeckenmkaaDoor.Hh

namespace Go.Proofs.YtefjnfeckenmkaaDoor.Hh
open Go.RowKit

/-- the two kinds of words -/
inductive WK : IntKind → Nat → Prop
  | s : WK .u32 32
  | l : WK .u64 64
/-- a word as a value -/
def bv {n : Nat} (k : IntKind) (x : BitVec n) : Value := iN k x.toNat
/-- words as cells -/
def wc {n : Nat} (k : IntKind) (l : List (BitVec n)) : Array Value := (l.map fun x => bv k x).toArray
theorem wc_size {n : Nat} (k : IntKind) (l : List (BitVec n)) : (wc k l).size = l.length := by simp [wc]
theorem wc_get {n : Nat} (k : IntKind) (l : List (BitVec n)) (i : Nat) (h : i < l.length) : (wc k l)[i]? = some (bv k (l.getD i 0)) := by
  simp [wc, List.getElem?_eq_getElem h]
theorem wc_put {n : Nat} (k : IntKind) (l : List (BitVec n)) (i : Nat) (x : BitVec n) : (wc k l).setIfInBounds i (.int k (x.toNat : Int)) = wc k (l.set i x) := by
  unfold wc
  rw [List.setIfInBounds_toArray, List.map_set]
  rfl
theorem one_wc {n : Nat} (k : IntKind) (l : List (BitVec n)) : (wc k l).all (·.oneCell') = true := all_oneCell_toArray fun v hv => by
  obtain ⟨x, _, rfl⟩ := List.mem_map.1 hv
  rfl
theorem u32n (a : Nat) : IntKind.u32.wrap (a : Int) = ((a % 4294967296 : Nat) : Int) := by rw [IntKind.wrap_u32']; omega
theorem u64n (a : Nat) : IntKind.u64.wrap (a : Int) = ((a % 18446744073709551616 : Nat) : Int) := by
  simp [IntKind.wrap, IntKind.bits, IntKind.signed]
section
variable {ρ : Operand → Value} {x y : Operand} {w : World} {dst : Option Tmp} {T T2 ty : TypeId} {pos : String} {aft : Array Edge} {gd : Option (Nat × Bool)} {k : IntKind} {n : Nat} {a b : BitVec n} {P : Program}
theorem run_addv (hk : WK k n) (hx : ρ x = bv k a) (hy : ρ y = bv k b) : (execOp ρ ⟨dst, .binOp .add T x y T2, ty, pos, aft, gd⟩).run P w = .ok (.value (bv k (a + b))) w := by
  cases hk
  · have h := u32n (a.toNat + b.toNat)
    simp only [execOp, hx, hy, bv, iN, BitVec.toNat_add]
    simpa [binOp, go_sem] using h
  · have h := u64n (a.toNat + b.toNat)
    simp only [execOp, hx, hy, bv, iN, BitVec.toNat_add]
    simpa [binOp, go_sem] using h
theorem run_xorv (hk : WK k n) (hx : ρ x = bv k a) (hy : ρ y = bv k b) : (execOp ρ ⟨dst, .binOp .xor T x y T2, ty, pos, aft, gd⟩).run P w = .ok (.value (bv k (a ^^^ b))) w := by
  cases hk
  · have h := u32_xor_nat a.toNat b.toNat a.isLt b.isLt
    simp only [execOp, hx, hy, bv, iN, BitVec.toNat_xor]
    simpa [binOp, go_sem] using h
  · have h := u64_xor_nat a.toNat b.toNat a.isLt b.isLt
    simp only [execOp, hx, hy, bv, iN, BitVec.toNat_xor]
    simpa [binOp, go_sem] using h
theorem run_andv (hk : WK k n) (hx : ρ x = bv k a) (hy : ρ y = bv k b) : (execOp ρ ⟨dst, .binOp .and T x y T2, ty, pos, aft, gd⟩).run P w = .ok (.value (bv k (a &&& b))) w := by
  cases hk
  · have h := run_and32 (P := P) (w := w) (dst := dst) (T := T) (T2 := T2) (ty := ty) (pos := pos) (aft := aft) (gd := gd) hx hy a.isLt b.isLt
    unfold bv; rw [BitVec.toNat_and]; exact h
  · have h := run_and64 (P := P) (w := w) (dst := dst) (T := T) (T2 := T2) (ty := ty) (pos := pos) (aft := aft) (gd := gd) hx hy a.isLt b.isLt
    unfold bv; rw [BitVec.toNat_and]; exact h
theorem run_orv (hk : WK k n) (hx : ρ x = bv k a) (hy : ρ y = bv k b) : (execOp ρ ⟨dst, .binOp .or T x y T2, ty, pos, aft, gd⟩).run P w = .ok (.value (bv k (a ||| b))) w := by
  cases hk
  · have h := run_or32 (P := P) (w := w) (dst := dst) (T := T) (T2 := T2) (ty := ty) (pos := pos) (aft := aft) (gd := gd) hx hy a.isLt b.isLt
    unfold bv; rw [BitVec.toNat_or]; exact h
  · have h := run_or64 (P := P) (w := w) (dst := dst) (T := T) (T2 := T2) (ty := ty) (pos := pos) (aft := aft) (gd := gd) hx hy a.isLt b.isLt
    unfold bv; rw [BitVec.toNat_or]; exact h
theorem run_shrv {k2 : IntKind} {m : Nat} (hk : WK k n) (hx : ρ x = bv k a) (hy : ρ y = iN k2 m) : (execOp ρ ⟨dst, .binOp .shr T x y T2, ty, pos, aft, gd⟩).run P w = .ok (.value (bv k (a >>> m))) w := by
  have e : (a >>> m).toNat = a.toNat / 2 ^ m := by rw [BitVec.toNat_ushiftRight, Nat.shiftRight_eq_div_pow]
  have key : m ≤ k.bits ∨ k.bits < m := Nat.lt_or_ge k.bits m |>.symm
  rcases key with h | h
  · have := run_shr (P := P) (w := w) (dst := dst) (T := T) (T2 := T2) (ty := ty) (pos := pos) (aft := aft) (gd := gd) hx hy h
    rw [this, bv, e]
  · have hz : ∀ {j : Nat}, n ≤ j → a.toNat / 2 ^ j = 0 := fun {j} hj => Nat.div_eq_of_lt (Nat.lt_of_lt_of_le a.isLt (Nat.pow_le_pow_right (by decide) hj))
    have e2 : min m k.bits = k.bits := Nat.min_eq_right (Nat.le_of_lt h)
    cases hk
    · have h3 : a.toNat / 2 ^ m = a.toNat / 2 ^ 32 := by rw [hz (j := m) (by simp [IntKind.bits] at h; omega), hz (j := 32) (by omega)]
      simp only [execOp, hx, hy, bv, iN, e, h3]
      simp [IntKind.bits] at e2
      simp [binOp, go_sem, e2]
    · have h3 : a.toNat / 2 ^ m = a.toNat / 2 ^ 64 := by rw [hz (j := m) (by simp [IntKind.bits] at h; omega), hz (j := 64) (by omega)]
      simp only [execOp, hx, hy, bv, iN, e, h3]
      simp [IntKind.bits] at e2
      simp [binOp, go_sem, e2]
theorem run_shlv {k2 : IntKind} {m : Nat} (hk : WK k n) (hx : ρ x = bv k a) (hy : ρ y = iN k2 m) (hm : m ≤ n) : (execOp ρ ⟨dst, .binOp .shl T x y T2, ty, pos, aft, gd⟩).run P w = .ok (.value (bv k (a <<< m))) w := by
  have e : (a <<< m).toNat = a.toNat * 2 ^ m % 2 ^ n := by rw [BitVec.toNat_shiftLeft, Nat.shiftLeft_eq]
  cases hk
  · have h := u32n (a.toNat * 2 ^ m)
    have e2 : min m 32 = m := Nat.min_eq_left hm
    simp only [execOp, hx, hy, bv, iN, e]
    simpa [binOp, go_sem, e2] using h
  · have h := u64n (a.toNat * 2 ^ m)
    have e2 : min m 64 = m := Nat.min_eq_left hm
    simp only [execOp, hx, hy, bv, iN, e]
    simpa [binOp, go_sem, e2] using h
end
end Go.Proofs.YtefjnfeckenmkaaDoor.Hh

namespace Go.Proofs.YtefjnfeckenmkaaDoor.Hh
open Go.RowKit

def bl (s : ByteArray) : List UInt8 := s.data.toList
theorem bl_len (s : ByteArray) : (bl s).length = s.size := by unfold bl; rw [Array.length_toList]; rfl
/-- a byte as a value -/
def by8 (u : UInt8) : Value := iN .u8 u.toNat
/-- bytes as cells -/
def bc (l : List UInt8) : Array Value := (l.map by8).toArray
theorem bc_size (l : List UInt8) : (bc l).size = l.length := by simp [bc]
theorem bc_get (l : List UInt8) (i : Nat) (h : i < l.length) : (bc l)[i]? = some (by8 (l.getD i 0)) := by
  simp [bc, List.getElem?_eq_getElem h]
section
variable {ρ : Operand → Value} {x y : Operand} {w : World} {dst : Option Tmp} {T T2 ty : TypeId} {pos : String} {aft : Array Edge} {gd : Option (Nat × Bool)} {k : IntKind} {n : Nat} {a b : BitVec n} 
theorem run_notv64 {a : BitVec 64} (hx : ρ x = bv .u64 a) : (execOp ρ ⟨dst, .unOp .xor 34 x, ty, pos, aft, gd⟩).run Tryd.prog w = .ok (.value (bv .u64 (~~~a))) w := by
  have e : (~~~a).toNat = 18446744073709551615 ^^^ a.toNat := by rw [← BitVec.xor_allOnes, BitVec.toNat_xor, Nat.xor_comm]; rfl
  have h := u64_xor_nat 18446744073709551615 a.toNat (by decide) a.isLt
  simp only [execOp, hx, bv, iN, e]
  go_simp
  exact h
theorem run_wide {P : Program} {u : UInt8} (hk : WK k n) (hx : ρ x = by8 u) (hT : P.underlying T = some (.int .u8)) (hT2 : P.underlying T2 = some (.int k)) : (execOp ρ ⟨dst, .convert T T2 x, ty, pos, aft, gd⟩).run P w = .ok (.value (bv k (BitVec.ofNat n u.toNat))) w := by
  cases hk
  · have h := u32n u.toNat
    simp only [execOp, hx, bv, by8, iN, BitVec.toNat_ofNat]
    simpa [go_sem, hT, hT2] using h
  · have h := u64n u.toNat
    simp only [execOp, hx, bv, by8, iN, BitVec.toNat_ofNat]
    simpa [go_sem, hT, hT2] using h
theorem run_low {P : Program} (hx : ρ x = bv k a) (hT : P.underlying T = some (.int k)) (hT2 : P.underlying T2 = some (.int .u8)) : (execOp ρ ⟨dst, .convert T T2 x, ty, pos, aft, gd⟩).run P w = .ok (.value (by8 (UInt8.ofNat a.toNat))) w := by
  have h : IntKind.u8.wrap (a.toNat : Int) = ((a.toNat % 256 : Nat) : Int) := by simp [IntKind.wrap, IntKind.bits, IntKind.signed]
  simp only [execOp, hx, bv, by8, iN, UInt8.toNat_ofNat']
  simpa [go_sem, hT, hT2] using h
theorem run_index43 {c : Array Value} {i : Nat} {v : Value} (hx : ρ x = .agg c) (hy : ρ y = iN .i64 i) (hi : i < 8) (hv : c[i]? = some v) : (execOp ρ ⟨dst, .index 97 x y, ty, pos, aft, gd⟩).run Tryd.prog w = .ok (.value v) w := by
  simp only [execOp, hx, hy, iN]
  simp [go_sem, Instr.index, run_underlying Tryd.underlying97, asIntOf, Tryd.sizeOf34, Tryd.isAgg34, hv]
  omega
theorem run_len26 {q : Option Addr} {m c : Nat} (hx : ρ x = .slice q m c) : (execOp ρ ⟨dst, .call { callee := .builtin .len, args := #[x], argTypes := #[70] }, ty, pos, aft, gd⟩).run Tryd.prog w = .ok (.value (iN .i64 m)) w := by
  simp only [execOp, iN]
  go_simp
theorem run_len28 {q : Option Addr} {m c : Nat} (hx : ρ x = .slice q m c) : (execOp ρ ⟨dst, .call { callee := .builtin .len, args := #[x], argTypes := #[27] }, ty, pos, aft, gd⟩).run Tryd.prog w = .ok (.value (iN .i64 m)) w := by
  simp only [execOp, iN]
  go_simp
theorem run_len {s : ByteArray} (hx : ρ x = .string s) : (execOp ρ ⟨dst, .call { callee := .builtin .len, args := #[x], argTypes := #[9] }, ty, pos, aft, gd⟩).run Tryd.prog w = .ok (.value (iN .i64 s.size)) w := by
  simp only [execOp, iN]
  go_simp
theorem run_min {i j : Nat} (hx : ρ x = iN .i64 i) (hy : ρ y = iN .i64 j) : (execOp ρ ⟨dst, .call { callee := .builtin .min, args := #[x, y], argTypes := #[3, 3] }, ty, pos, aft, gd⟩).run Tryd.prog w = .ok (.value (iN .i64 (min i j))) w := by
  simp only [execOp, iN] at hx hy ⊢
  go_simp
  split <;> omega
theorem run_cut_hi {s : ByteArray} {b : Nat} (hx : ρ x = .string s) (hy : ρ y = iN .i64 b) (hb : b ≤ s.size) : (execOp ρ ⟨dst, .slice 9 x none (some y) none, ty, pos, aft, gd⟩).run Tryd.prog w = .ok (.value (.string (s.extract 0 b))) w := by
  simp only [execOp, hx, Option.map, hy, iN]
  go_simp
theorem run_cut_lo {z : Operand} {s : ByteArray} {a : Nat} (hx : ρ x = .string s) (hz : ρ z = iN .i64 a) (ha : a ≤ s.size) : (execOp ρ ⟨dst, .slice 9 x (some z) none none, ty, pos, aft, gd⟩).run Tryd.prog w = .ok (.value (.string (s.extract a s.size))) w := by
  simp only [execOp, hx, Option.map, hz, iN]
  go_simp
/-- a slice cut out of a slice -/
theorem run_cutb {z : Operand} {q m c a b : Nat} (hx : ρ x = .slice (some ⟨q, 0, none⟩) m c) (hz : ρ z = iN .i64 a) (hy : ρ y = iN .i64 b) (ha : a ≤ b) (hb : b ≤ c) (hac : a < c) : (execOp ρ ⟨dst, .slice 27 x (some z) (some y) none, ty, pos, aft, gd⟩).run Tryd.prog w = .ok (.value (.slice (some ⟨q, a, none⟩) (b - a) (c - a))) w := by
  simp only [execOp, hx, Option.map, hy, hz, iN]
  go_simp
  omega
theorem run_cut0 {q m c : Nat} (hx : ρ x = .slice (some ⟨q, 0, none⟩) m c) (hy : ρ y = iN .i64 0) : (execOp ρ ⟨dst, .slice 27 x none (some y) none, ty, pos, aft, gd⟩).run Tryd.prog w = .ok (.value (.slice (some ⟨q, 0, none⟩) 0 c)) w := by
  simp only [execOp, hx, Option.map, hy, iN]
  go_simp
theorem run_addr_part {q o m c i : Nat} (hx : ρ x = .slice (some ⟨q, o, none⟩) m c) (hy : ρ y = iN .i64 i) (hi : i < m) : (execOp ρ ⟨dst, .indexAddr 27 x y, ty, pos, aft, gd⟩).run Tryd.prog w = .ok (.value (.pointer (some ⟨q, o + i, none⟩))) w := by
  simp only [execOp, hx, hy, iN]
  go_simp
theorem run_addr26 {q m c i : Nat} (hx : ρ x = .slice (some ⟨q, 0, none⟩) m c) (hy : ρ y = iN .i64 i) (hi : i < m) : (execOp ρ ⟨dst, .indexAddr 70 x y, ty, pos, aft, gd⟩).run Tryd.prog w = .ok (.value (.pointer (some ⟨q, i, none⟩))) w := by
  simp only [execOp, hx, hy, iN]
  go_simp
theorem info5 : (Tryd.prog.info? 5).map (fun i => (i.zero, i.size, i.bytes)) = some (some (.int .u8 0), 1, 1) := by kernel_rfl
theorem made_bc (c : Nat) : madeCells #[.int .u8 0] c = bc (List.replicate c 0) := by
  unfold madeCells bc
  apply Array.ext
  · simp
  · intro i h1 h2
    simp [Nat.mod_one, by8, iN]
set_option maxRecDepth 100000 in
theorem run_mk {m c : Nat} (hx : ρ x = iN .i64 m) (hy : ρ y = iN k c) (hmc : m ≤ c) (hc : c ≤ 1000000) : (execOp ρ ⟨dst, .makeSlice 27 x y, ty, pos, aft, gd⟩).run Tryd.prog w = .ok (.value (.slice (some ⟨w.heap.size, 0, none⟩) m c)) (w.alloc (.cells (bc (List.replicate c 0)) 5)) := by
  obtain ⟨i, hi, h⟩ := Option.map_eq_some_iff.1 info5
  simp only [Prod.mk.injEq] at h
  have e := run_makeSlice (P := Tryd.prog) w 27 5 i (.int .u8 0) Tryd.underlying27 hi h.1 .i64 k (m : Int) (c : Int) (by omega) (by omega) (by rw [h.2.1]; omega) (by rw [h.2.2]; omega) (by omega)
  rw [h.2.1] at e
  simp only [Int.toNat_natCast, Nat.mul_one] at e
  simp only [execOp, hx, hy, iN, Sem.run_bind, e, Result.andThen_ok, Sem.run_pure]
  congr 3
  exact made_bc c
end
end Go.Proofs.YtefjnfeckenmkaaDoor.Hh

namespace Go.Proofs.YtefjnfeckenmkaaDoor.Hh
open Go.RowKit

/-- one block is turned -/
theorem _root_.Go.Proofs.YtefjnfeckenmkaaDoor.HA.turnH {w0 A B : World} {L : List (Nat × TypeId × Array Value)} {q : Nat} {t : TypeId} {c c' : Array Value} (h : HA w0 L A) (i : Nat) (hi : L[i]? = some (q, t, c)) (hg : A.grownBy B (some q)) (hb : Blk B q t c') : HA w0 (L.set i (q, t, c')) B := by
  have hlt : i < L.length := (List.getElem?_eq_some_iff.1 hi).1
  have hmap : (L.set i (q, t, c')).map (·.1) = L.map (·.1) := by
    rw [List.map_set]
    refine List.ext_getElem? fun m => ?_
    by_cases hm : i = m
    · subst hm
      rw [List.getElem?_set_self (by simpa using hlt), List.getElem?_map, hi]
      rfl
    · rw [List.getElem?_set_ne hm]
  have hq := h.own _ (List.mem_of_getElem? hi)
  refine ⟨h.old.grown hg h.old.size (fun k hk => by cases hk; exact hq), fun x hx => ?_, fun x hx => ?_, by rw [hmap]; exact h.nd⟩
  · obtain ⟨m, hm⟩ := List.mem_iff_getElem?.1 hx
    by_cases him : i = m
    · subst him
      rw [List.getElem?_set_self hlt] at hm
      obtain rfl := Option.some.inj hm
      exact hb
    · rw [List.getElem?_set_ne him] at hm
      have hx1 := h.get m hm
      unfold Blk
      rw [hg.block x.1 hx1.lt (fun e => him ?_)]
      · exact hx1
      · have h1 : (L.map (·.1))[i]? = some q := by rw [List.getElem?_map, hi]; rfl
        have h2 : (L.map (·.1))[m]? = some q := by rw [List.getElem?_map, hm]; exact e
        exact (List.getElem?_inj (by simpa using hlt) h.nd).1 (h1.trans h2.symm)
  · have : x.1 ∈ L.map (·.1) := by rw [← hmap]; exact List.mem_map.2 ⟨x, hx, rfl⟩
    obtain ⟨y, hy, e⟩ := List.mem_map.1 this
    rw [← e]
    exact h.own y hy
theorem grown_sets {w : World} {q o : Nat} {vs : List Value} : w.grownBy (w.setCells q o vs) (some q) := by
  have key : ∀ (vs : List Value) (o : Nat) (w2 : World), w.grownBy w2 (some q) → w.grownBy (w2.setCells q o vs) (some q) := by
    intro vs
    induction vs with
    | nil => intro o w2 h; exact h
    | cons v r ih =>
      intro o w2 h
      refine ih (o + 1) _ ⟨h.os, h.tape, h.output, by simpa using h.size, fun k hk hne => ?_⟩
      rw [Below.heap_setCell w2 ⟨q, o, none⟩ v k (fun e => hne (by rw [e]))]
      exact h.block k hk hne
  exact key vs o w ⟨rfl, rfl, rfl, Nat.le_refl _, fun _ _ _ => rfl⟩

theorem _root_.Go.Proofs.YtefjnfeckenmkaaDoor.HA.part {w0 w : World} {L : List (Nat × TypeId × Array Value)} {q o : Nat} {t : TypeId} {c : Array Value} {vs : List Value} (h : HA w0 L w) (i : Nat) (hi : L[i]? = some (q, t, c)) (ho : o + vs.length ≤ c.size) :
    HA w0 (L.set i (q, t, (c.toList.take o ++ vs ++ c.toList.drop (o + vs.length)).toArray)) (w.setCells q o vs) := h.turnH i hi grown_sets (Blk.sets vs o w c (h.get i hi) ho)
/-- m bytes stand, then come others -/
def laidOn (l : List UInt8) (m : Nat) (r : List UInt8) : List UInt8 := l.take m ++ r ++ l.drop (m + r.length)
theorem laidOn_len (l : List UInt8) (m : Nat) (r : List UInt8) (h : m + r.length ≤ l.length) : (laidOn l m r).length = l.length := by
  unfold laidOn
  rw [List.length_append, List.length_append, List.length_take, List.length_drop]
  omega
theorem laidOn_take (l : List UInt8) (m : Nat) (r : List UInt8) (h : m + r.length ≤ l.length) : (laidOn l m r).take (m + r.length) = l.take m ++ r := by
  unfold laidOn
  have e : (l.take m ++ r).length = m + r.length := by rw [List.length_append, List.length_take]; omega
  rw [← e, List.take_left]
theorem laid_bc (l : List UInt8) (m : Nat) (r : List UInt8) : ((bc l).toList.take m ++ (r.map by8) ++ (bc l).toList.drop (m + (r.map by8).length)).toArray = bc (laidOn l m r) := by
  unfold bc laidOn
  simp [List.map_take, List.map_drop]
section
variable {ρ : Operand → Value} {x y : Operand} {w : World} {dst : Option Tmp} {T T2 ty : TypeId} {pos : String} {aft : Array Edge} {gd : Option (Nat × Bool)}
theorem run_app {q r m c j c2 : Nat} {l n : List UInt8} (hx : ρ x = .slice (some ⟨q, 0, none⟩) m c) (hy : ρ y = .slice (some ⟨r, 0, none⟩) j c2) (hq : Blk w q 5 (bc l)) (hr : Blk w r 5 (bc n)) (hj : n.length = j) (hroom : m + j ≤ c) (hl : l.length = c) :
    (execOp ρ ⟨dst, .call { callee := .builtin .append, args := #[x, y], argTypes := #[27, 27] }, ty, pos, aft, gd⟩).run Tryd.prog w = .ok (.value (.slice (some ⟨q, 0, none⟩) (m + j) c)) (w.setCells q m (n.map by8)) := by
  obtain ⟨i, hi, h⟩ := Option.map_eq_some_iff.1 info5
  simp only [Prod.mk.injEq] at h
  have hf := run_firstCells_some (P := Tryd.prog) w 1 j ⟨r, 0, none⟩ j c2 (n.map by8) (by rw [List.length_map, hj, Nat.mul_one]) (fun k v hv => by
    have hadd : (⟨r, 0, none⟩ : Addr).add k = ⟨r, k, none⟩ := by unfold Addr.add; split <;> simp_all
    rw [hadd, hr.cell k]
    simpa [bc] using hv)
  have hst := run_storeCells_cells (P := Tryd.prog) q m (n.map by8) 0 w (fun k hk => by
    rw [hq.cell]
    rw [List.length_map] at hk
    simp [bc_size]
    omega) (fun k hk => by
    rw [List.length_map] at hk
    exact hq.free _ (by rw [bc_size]; omega)) (fun v hv => by
    obtain ⟨u, _, rfl⟩ := List.mem_map.1 hv
    rfl)
  simp only [Nat.add_zero] at hst
  have e : (Builtin.append_ #[27, 27] ty #[.slice (some ⟨q, 0, none⟩) m c, .slice (some ⟨r, 0, none⟩) j c2]).run Tryd.prog w = .ok (.slice (some ⟨q, 0, none⟩) (m + j) c) (w.setCells q m (n.map by8)) := by
    simp [Builtin.append_, run_underlying Tryd.underlying27, sizeOf, typeInfo, hi, h.2.1, Builtin.lenOf, hroom, hf, Addr.add_lit, hst]
  have e0 : (execOp ρ ⟨dst, .call { callee := .builtin .append, args := #[x, y], argTypes := #[27, 27] }, ty, pos, aft, gd⟩).run Tryd.prog w = ((Builtin.append_ #[27, 27] ty #[ρ x, ρ y]).run Tryd.prog w).andThen (fun a w' => .ok (.value a) w') := by simp [go_sem]
  rw [e0, hx, hy, e]
  rfl
theorem run_apps {q m c : Nat} {l : List UInt8} {s : ByteArray} (hx : ρ x = .slice (some ⟨q, 0, none⟩) m c) (hy : ρ y = .string s) (hq : Blk w q 5 (bc l)) (hroom : m + s.size ≤ c) (hl : l.length = c) :
    (execOp ρ ⟨dst, .call { callee := .builtin .append, args := #[x, y], argTypes := #[27, 9] }, ty, pos, aft, gd⟩).run Tryd.prog w = .ok (.value (.slice (some ⟨q, 0, none⟩) (m + s.size) c)) (w.setCells q m ((bl s).map by8)) := by
  obtain ⟨i, hi, h⟩ := Option.map_eq_some_iff.1 info5
  simp only [Prod.mk.injEq] at h
  have hf := Lib.run_firstCells_string (P := Tryd.prog) w 1 s
  have hst := run_storeCells_cells (P := Tryd.prog) q m ((bl s).map by8) 0 w (fun k hk => by
    rw [hq.cell]
    rw [List.length_map, bl_len] at hk
    simp [bc_size]
    omega) (fun k hk => by
    rw [List.length_map, bl_len] at hk
    exact hq.free _ (by rw [bc_size]; omega)) (fun v hv => by
    obtain ⟨u, _, rfl⟩ := List.mem_map.1 hv
    rfl)
  simp only [Nat.add_zero] at hst
  have e2 : Lib.strCells s = (bl s).map by8 := rfl
  rw [e2] at hf
  have e : (Builtin.append_ #[27, 9] ty #[.slice (some ⟨q, 0, none⟩) m c, .string s]).run Tryd.prog w = .ok (.slice (some ⟨q, 0, none⟩) (m + s.size) c) (w.setCells q m ((bl s).map by8)) := by
    simp [Builtin.append_, run_underlying Tryd.underlying27, run_underlying Tryd.underlying9, sizeOf, typeInfo, hi, h.2.1, Builtin.lenOf, hroom, hf, Addr.add_lit, hst]
  have e0 : (execOp ρ ⟨dst, .call { callee := .builtin .append, args := #[x, y], argTypes := #[27, 9] }, ty, pos, aft, gd⟩).run Tryd.prog w = ((Builtin.append_ #[27, 9] ty #[ρ x, ρ y]).run Tryd.prog w).andThen (fun a w' => .ok (.value a) w') := by simp [go_sem]
  rw [e0, hx, hy, e]
  rfl
theorem run_text {q m c : Nat} {l : List UInt8} (hx : ρ x = .slice (some ⟨q, 0, none⟩) m c) (h : Blk w q 5 (bc l)) (hm : m ≤ l.length) :
    (execOp ρ ⟨dst, .convert 27 9 x, ty, pos, aft, gd⟩).run Tryd.prog w = .ok (.value (.string ⟨(l.take m).toArray⟩)) w := by
  have e0 : (l.take m).length = m := by rw [List.length_take]; omega
  have e := run_convert_bytes_back (P := Tryd.prog) w 27 9 5 ⟨q, 0, none⟩ c (l.take m) Tryd.underlying27 Tryd.underlying5 Tryd.underlying9 (fun j hj => by
    have hadd : (⟨q, 0, none⟩ : Addr).add j = ⟨q, j, none⟩ := by unfold Addr.add; split <;> simp_all
    rw [e0] at hj
    rw [hadd, h.cell j, bc_get l j (by omega), List.getElem_take, List.getD_eq_getElem?_getD, List.getElem?_eq_getElem (by omega)]
    rfl)
  rw [e0] at e
  simp only [execOp, hx, Sem.run_bind, e, Result.andThen_ok, Sem.run_pure]
end
end Go.Proofs.YtefjnfeckenmkaaDoor.Hh

namespace Go.Proofs.YtefjnfeckenmkaaDoor.Hh

structure Kd where
  w : Nat
  B : Nat
  R : Nat
  Ln : Nat
  hd : Nat × Nat × Nat
  tl : Nat × Nat × Nat
  nr : Nat × Nat × Nat
  fr : Nat × Nat × Nat
abbrev KS : Kd := ⟨32, 64, 64, 8, (2, 13, 22), (6, 11, 25), (7, 18, 3), (17, 19, 10)⟩
abbrev KL : Kd := ⟨64, 128, 80, 16, (28, 34, 39), (14, 18, 41), (1, 8, 7), (19, 61, 6)⟩
def fws : List (BitVec 64) := [7640891576956012808#64, 13503953896175478587#64, 4354685564936845355#64, 11912009170470909681#64, 5840696475078001361#64, 11170449401992604703#64, 2270897969802886507#64, 6620516959819538809#64]
def rws : List (BitVec 64) := [4794697086780616226#64, 8158064640168781261#64, 13096744586834688815#64, 16840607885511220156#64, 4131703408338449720#64, 6480981068601479193#64, 10538285296894168987#64, 12329834152419229976#64, 15566598209576043074#64, 1334009975649890238#64, 2608012711638119052#64, 6128411473006802146#64, 8268148722764581231#64, 9286055187155687089#64, 11230858885718282805#64, 13951009754708518548#64, 16472876342353939154#64, 17275323862435702243#64, 1135362057144423861#64, 2597628984639134821#64, 3308224258029322869#64, 5365058923640841347#64, 6679025012923562964#64, 8573033837759648693#64, 10970295158949994411#64, 12119686244451234320#64, 12683024718118986047#64, 13788192230050041572#64, 14330467153632333762#64, 15395433587784984357#64, 489312712824947311#64, 1452737877330783856#64, 2861767655752347644#64, 3322285676063803686#64, 5560940570517711597#64, 5996557281743188959#64, 7280758554555802590#64, 8532644243296465576#64, 9350256976987008742#64, 10552545826968843579#64, 11727347734174303076#64, 12113106623233404929#64, 14000437183269869457#64, 14369950271660146224#64, 15101387698204529176#64, 15463397548674623760#64, 17586052441742319658#64, 1182934255886127544#64, 1847814050463011016#64, 2177327727835720531#64, 2830643537854262169#64, 3796741975233480872#64, 4115178125766777443#64, 5681478168544905931#64, 6601373596472566643#64, 7507060721942968483#64, 8399075790359081724#64, 8693463985226723168#64, 9568029438360202098#64, 10144078919501101548#64, 10430055236837252648#64, 11840083180663258601#64, 13761210420658862357#64, 14299343276471374635#64, 14566680578165727644#64, 15097957966210449927#64, 16922976911328602910#64, 17689382322260857208#64, 500013540394364858#64, 748580250866718886#64, 1242879168328830382#64, 1977374033974150939#64, 2944078676154940804#64, 3659926193048069267#64, 4368137639120453308#64, 4836135668995329356#64, 5532061633213252278#64, 6448918945643986474#64, 6902733635092675308#64, 7801388544844847127#64]
def rotP {w : Nat} (x : BitVec w) (n : Nat) : BitVec w := (x >>> n) ||| (x <<< (w - n))
def turP {w : Nat} (x : BitVec w) (t : Nat × Nat × Nat) : BitVec w := rotP x t.1 ^^^ rotP x t.2.1 ^^^ rotP x t.2.2
def movP {w : Nat} (x : BitVec w) (t : Nat × Nat × Nat) : BitVec w := rotP x t.1 ^^^ rotP x t.2.1 ^^^ (x >>> t.2.2)
def cutP (w : Nat) (r : BitVec 64) : BitVec w := (r >>> (64 - w)).setWidth w
def begP (w : Nat) : List (BitVec w) := fws.map (cutP w)
/-- bytes as a word, the highest first -/
def wordP (w : Nat) (l : List UInt8) : BitVec w := l.foldl (fun x b => (x <<< 8) ||| BitVec.ofNat w b.toNat) 0
/-- the first words of a block -/
def firstP (w sz : Nat) (blk : List UInt8) : Nat → List (BitVec w)
  | 0 => []
  | i + 1 => firstP w sz blk i ++ [wordP w ((blk.drop (i * sz)).take sz)]
def nextP (K : Kd) (l : List (BitVec K.w)) (n : Nat) : BitVec K.w :=
  movP (l.getD (16 + n - 2) 0) K.fr + l.getD (16 + n - 7) 0 + movP (l.getD (16 + n - 15) 0) K.nr + l.getD (16 + n - 16) 0
def schP (K : Kd) (blk : List UInt8) : Nat → List (BitVec K.w)
  | 0 => firstP K.w (K.B / 16) blk 16
  | n + 1 => schP K blk n ++ [nextP K (schP K blk n) n]
structure V8 (w : Nat) where
  a : BitVec w
  b : BitVec w
  c : BitVec w
  d : BitVec w
  e : BitVec w
  f : BitVec w
  g : BitVec w
  h : BitVec w
def tP (K : Kd) (v : V8 K.w) (kw m : BitVec K.w) : BitVec K.w := v.h + turP v.e K.tl + ((v.e &&& v.f) ^^^ (~~~v.e &&& v.g)) + kw + m
def uP (K : Kd) (v : V8 K.w) : BitVec K.w := turP v.a K.hd + ((v.a &&& v.b) ^^^ (v.a &&& v.c) ^^^ (v.b &&& v.c))
def rndP (K : Kd) (v : V8 K.w) (kw m : BitVec K.w) : V8 K.w := ⟨tP K v kw m + uP K v, v.a, v.b, v.c, v.d + tP K v kw m, v.e, v.f, v.g⟩
def rndsP (K : Kd) (m : List (BitVec K.w)) (v : V8 K.w) : Nat → V8 K.w
  | 0 => v
  | i + 1 => rndP K (rndsP K m v i) (cutP K.w (rws.getD i 0)) (m.getD i 0)
def v8 {w : Nat} (l : List (BitVec w)) : V8 w := ⟨l.getD 0 0, l.getD 1 0, l.getD 2 0, l.getD 3 0, l.getD 4 0, l.getD 5 0, l.getD 6 0, l.getD 7 0⟩
def l8 {w : Nat} (v : V8 w) : List (BitVec w) := [v.a, v.b, v.c, v.d, v.e, v.f, v.g, v.h]
/-- the first n are added -/
def sumL {w : Nat} (l r : List (BitVec w)) : Nat → List (BitVec w)
  | 0 => l
  | i + 1 => (sumL l r i).set i ((sumL l r i).getD i 0 + r.getD i 0)
def sprP (K : Kd) (blk : List UInt8) : List (BitVec K.w) := schP K blk (K.R - 16) ++ List.replicate (80 - K.R) 0
def turnP (K : Kd) (st : List (BitVec K.w)) (blk : List UInt8) : List (BitVec K.w) := sumL st (l8 (rndsP K (sprP K blk) (v8 st) K.R)) 8
/-- one byte more -/
def feed (K : Kd) (p : List (BitVec K.w) × List UInt8) (b : UInt8) : List (BitVec K.w) × List UInt8 :=
  if (p.2 ++ [b]).length = K.B then (turnP K p.1 (p.2 ++ [b]), []) else (p.1, p.2 ++ [b])
def fedP (K : Kd) (p : List (BitVec K.w) × List UInt8) (l : List UInt8) : List (BitVec K.w) × List UInt8 := l.foldl (feed K) p
/-- a number's bytes, n of them, the highest first -/
def beP (n z : Nat) : Nat → List UInt8
  | 0 => []
  | i + 1 => beP n z i ++ [UInt8.ofNat (z / 2 ^ (8 * (n - 1 - i)))]
def gapP (K : Kd) (size : Nat) : Nat := K.B - 1 - (size + (1 + K.Ln) - 1) % K.B
def fillP (K : Kd) (size : Nat) : List UInt8 := 128 :: List.replicate (gapP K size) 0 ++ beP K.Ln (8 * size) K.Ln
/-- a word's bytes, the highest first; n of them -/
def outW {w : Nat} (x : BitVec w) : Nat → List UInt8
  | 0 => []
  | j + 1 => outW x j ++ [UInt8.ofNat (x >>> (w - 8 * (j + 1))).toNat]
def outP {w : Nat} (l : List (BitVec w)) : Nat → List UInt8
  | 0 => []
  | i + 1 => outP l i ++ outW (l.getD i 0) (w / 8)
/-- the digest of bytes -/
def digP (K : Kd) (l : List UInt8) : List UInt8 := outP (fedP K (begP K.w, []) (l ++ fillP K l.length)).1 8

theorem firstP_len (w sz : Nat) (blk : List UInt8) : ∀ i, (firstP w sz blk i).length = i
  | 0 => rfl
  | i + 1 => by rw [firstP, List.length_append, firstP_len w sz blk i]; rfl
theorem schP_len (K : Kd) (blk : List UInt8) : ∀ n, (schP K blk n).length = 16 + n
  | 0 => by rw [schP, firstP_len]
  | n + 1 => by rw [schP, List.length_append, schP_len K blk n]; simp; omega
theorem sumL_len {w : Nat} (l r : List (BitVec w)) : ∀ i, (sumL l r i).length = l.length
  | 0 => rfl
  | i + 1 => by rw [sumL, List.length_set, sumL_len l r i]
theorem turnP_len (K : Kd) (st : List (BitVec K.w)) (blk : List UInt8) : (turnP K st blk).length = st.length := sumL_len _ _ _
theorem begP_len (w : Nat) : (begP w).length = 8 := by unfold begP fws; rw [List.length_map]; rfl
theorem outW_len {w : Nat} (x : BitVec w) : ∀ j, (outW x j).length = j
  | 0 => rfl
  | j + 1 => by rw [outW, List.length_append, outW_len x j]; rfl
theorem outP_len {w : Nat} (l : List (BitVec w)) : ∀ i, (outP l i).length = i * (w / 8)
  | 0 => by rw [Nat.zero_mul]; rfl
  | i + 1 => by rw [outP, List.length_append, outP_len l i, outW_len, Nat.succ_mul]
theorem beP_len (n z : Nat) : ∀ i, (beP n z i).length = i
  | 0 => rfl
  | i + 1 => by rw [beP, List.length_append, beP_len n z i]; rfl
theorem fedP_app (K : Kd) (p : List (BitVec K.w) × List UInt8) (l m : List UInt8) : fedP K p (l ++ m) = fedP K (fedP K p l) m := List.foldl_append ..
/-- fewer than make a block -/
theorem fedP_less (K : Kd) : ∀ (l : List UInt8) (p : List (BitVec K.w) × List UInt8), p.2.length + l.length < K.B → fedP K p l = (p.1, p.2 ++ l)
  | [], p, _ => by rw [List.append_nil]; rfl
  | b :: l, p, h => by
    rw [List.length_cons] at h
    have h1 : feed K p b = (p.1, p.2 ++ [b]) := by
      unfold feed
      rw [if_neg]
      rw [List.length_append, List.length_cons, List.length_nil]
      omega
    show fedP K (feed K p b) l = _
    rw [h1, fedP_less K l _ (by rw [List.length_append, List.length_cons, List.length_nil]; omega), List.append_assoc]
    rfl
/-- just a block -/
theorem fedP_full (K : Kd) (l : List UInt8) (p : List (BitVec K.w) × List UInt8) (hl : l ≠ []) (h : p.2.length + l.length = K.B) : fedP K p l = (turnP K p.1 (p.2 ++ l), []) := by
  obtain ⟨m, b, rfl⟩ : ∃ m b, l = m ++ [b] := ⟨l.dropLast, l.getLast hl, (List.dropLast_concat_getLast hl).symm⟩
  rw [List.length_append, List.length_cons, List.length_nil] at h
  rw [fedP_app, fedP_less K m p (by omega)]
  show feed K (p.1, p.2 ++ m) b = _
  unfold feed
  rw [if_pos (by simp only [List.length_append, List.length_cons, List.length_nil]; omega), List.append_assoc]
theorem feed_lt (K : Kd) (hB : 0 < K.B) (p : List (BitVec K.w) × List UInt8) (b : UInt8) (h : p.2.length < K.B) : (feed K p b).2.length < K.B := by
  unfold feed
  split
  · exact hB
  · rename_i h2
    rw [List.length_append, List.length_cons, List.length_nil] at h2 ⊢
    omega
theorem feed_len (K : Kd) (p : List (BitVec K.w) × List UInt8) (b : UInt8) : (feed K p b).1.length = p.1.length := by
  unfold feed
  split
  · exact turnP_len _ _ _
  · rfl
theorem fedP_lt (K : Kd) (hB : 0 < K.B) : ∀ (l : List UInt8) (p : List (BitVec K.w) × List UInt8), p.2.length < K.B → (fedP K p l).2.length < K.B
  | [], _, h => h
  | b :: l, p, h => fedP_lt K hB l (feed K p b) (feed_lt K hB p b h)
theorem fedP_len (K : Kd) : ∀ (l : List UInt8) (p : List (BitVec K.w) × List UInt8), (fedP K p l).1.length = p.1.length
  | [], _ => rfl
  | b :: l, p => by show (fedP K (feed K p b) l).1.length = _; rw [fedP_len K l, feed_len]
theorem digP_len (K : Kd) (l : List UInt8) : (digP K l).length = 8 * (K.w / 8) := outP_len _ _
end Go.Proofs.YtefjnfeckenmkaaDoor.Hh

namespace Go.Proofs.YtefjnfeckenmkaaDoor.Hh
open Go.RowKit

def tc (a b c : Nat) : Array Value := #[iN .u64 a, iN .u64 b, iN .u64 c]
def kcL : Array Value := #[iN .u64 64, iN .i64 128, iN .i64 80, iN .i64 16, iN .u64 28, iN .u64 34, iN .u64 39, iN .u64 14, iN .u64 18, iN .u64 41, iN .u64 1, iN .u64 8, iN .u64 7, iN .u64 19, iN .u64 61, iN .u64 6]
theorem one_tc (a b c : Nat) : (tc a b c).all (·.oneCell') = true := by kernel_rfl
theorem info34 (a b c : Nat) : (Tryd.prog.info? 73).map (·.size) = some (tc a b c).size := by kernel_rfl
theorem info36L : (Tryd.prog.info? 75).map (·.size) = some kcL.size := by kernel_rfl
theorem i43 : (Tryd.prog.info? 97).map (·.size) = some 8 := by kernel_rfl
theorem i44 : (Tryd.prog.info? 111).map (·.size) = some 80 := by kernel_rfl
theorem info43 {n : Nat} (k : IntKind) (l : List (BitVec n)) (h : l.length = 8) : (Tryd.prog.info? 97).map (·.size) = some (wc k l).size := by rw [wc_size, h]; exact i43
theorem info44 {n : Nat} (k : IntKind) (l : List (BitVec n)) (h : l.length = 80) : (Tryd.prog.info? 111).map (·.size) = some (wc k l).size := by rw [wc_size, h]; exact i44
section
variable {ρ : Operand → Value} {x y : Operand} {w : World} {dst : Option Tmp} {T T2 ty : TypeId} {pos : String} {aft : Array Edge} {gd : Option (Nat × Bool)} {q : Nat} {c : Array Value}
theorem run_alloc34 : (execOp ρ ⟨dst, .alloc 73, ty, pos, aft, gd⟩).run Tryd.prog w = .ok (.value (.pointer (some ⟨w.heap.size, 0, none⟩))) (w.alloc (.cells (tc 0 0 0) 73)) := by kernel_rfl
theorem run_alloc43 : (execOp ρ ⟨dst, .alloc 97, ty, pos, aft, gd⟩).run Tryd.prog w = .ok (.value (.pointer (some ⟨w.heap.size, 0, none⟩))) (w.alloc (.cells (wc .u64 (List.replicate 8 (0 : BitVec 64))) 97)) := by kernel_rfl
theorem run_alloc44 : (execOp ρ ⟨dst, .alloc 111, ty, pos, aft, gd⟩).run Tryd.prog w = .ok (.value (.pointer (some ⟨w.heap.size, 0, none⟩))) (w.alloc (.cells (wc .u64 (List.replicate 80 (0 : BitVec 64))) 111)) := by kernel_rfl
theorem run_alloc28 : (execOp ρ ⟨dst, .alloc 27, ty, pos, aft, gd⟩).run Tryd.prog w = .ok (.value (.pointer (some ⟨w.heap.size, 0, none⟩))) (w.alloc (.cells #[.slice none 0 0] 27)) := by kernel_rfl
theorem run_box34 (hx : ρ x = .agg c) : (execOp ρ ⟨dst, .box 73 x, ty, pos, aft, gd⟩).run Tryd.prog w = .ok (.value (.pointer (some ⟨w.heap.size, 0, none⟩))) (w.alloc (.cells c 73)) := by
  simp only [execOp, hx]
  go_simp
theorem run_box36 (hx : ρ x = .agg c) : (execOp ρ ⟨dst, .box 75 x, ty, pos, aft, gd⟩).run Tryd.prog w = .ok (.value (.pointer (some ⟨w.heap.size, 0, none⟩))) (w.alloc (.cells c 75)) := by
  simp only [execOp, hx]
  go_simp
theorem run_box43 (hx : ρ x = .agg c) : (execOp ρ ⟨dst, .box 97 x, ty, pos, aft, gd⟩).run Tryd.prog w = .ok (.value (.pointer (some ⟨w.heap.size, 0, none⟩))) (w.alloc (.cells c 97)) := by
  simp only [execOp, hx]
  go_simp
/-- a turns' three numbers out of a kind -/
theorem run_part34 {off a b d : Nat} {t : TypeId} (hx : ρ x = .pointer (some ⟨q, off, none⟩)) (h : Blk w q t c) (hc : [c[off + 0]?, c[off + 1]?, c[off + 2]?] = [some (iN .u64 a), some (iN .u64 b), some (iN .u64 d)]) : (execOp ρ ⟨dst, .load 73 x, ty, pos, aft, gd⟩).run Tryd.prog w = .ok (.value (.agg (tc a b d))) w := by
  simp only [List.cons.injEq, and_true] at hc
  have hr : w.rangeAt q off (tc a b d).toList := fun j v hv => by
    rw [h.cell (off + j)]
    rcases j with _ | _ | _ | j
    · exact hc.1.trans hv
    · exact hc.2.1.trans hv
    · exact hc.2.2.trans hv
    · cases hv
  simp only [execOp, hx, Instr.loadAt, Instr.sureAddr, Sem.run_bind, Sem.run_pure, Result.andThen_ok, run_loadVar_mid w q off 73 (tc a b d).toList _ hr Tryd.underlying73 rfl (by rw [Array.length_toList]; exact info34 a b d)]
/-- a whole load by its range -/
theorem run_load_range {D : TypeDesc} (hx : ρ x = .pointer (some ⟨q, 0, none⟩)) (h : w.rangeAt q 0 c.toList) (hu : Tryd.prog.underlying T = some D) (hd : D.isRow = true) (hi : (Tryd.prog.info? T).map (·.size) = some c.size) : (execOp ρ ⟨dst, .load T x, ty, pos, aft, gd⟩).run Tryd.prog w = .ok (.value (.agg c)) w := by
  simp only [execOp, hx, Instr.loadAt, Instr.sureAddr, Sem.run_bind, Sem.run_pure, Result.andThen_ok, run_loadVar_mid w q 0 T c.toList D h hu hd (by simpa using hi)]
end
/-- the four variables -/
structure Vars (w : World) : Prop where
  big : 9 ≤ w.heap.size
  l : w.rangeAt 0 0 kcL.toList
  f : w.rangeAt 5 0 (wc .u64 fws).toList
  r : w.rangeAt 6 0 (wc .u64 rws).toList
theorem rangeAt_below {w w' : World} {B g : Nat} {c : List Value} (h : w.rangeAt g 0 c) (hb : Below B w w') (hg : g < B) : w'.rangeAt g 0 c := fun j v hv => by
  rw [hb.cell (p := ⟨g, 0 + j, none⟩) hg]
  exact h j v hv
theorem Vars.below {w w' : World} {B : Nat} (h : Vars w) (hb : Below B w w') (hB : 9 ≤ B) : Vars w' :=
  ⟨Nat.le_trans h.big hb.size, rangeAt_below h.l hb (by omega), rangeAt_below h.f hb (by omega), rangeAt_below h.r hb (by omega)⟩
theorem Vars.rw {w : World} (h : Vars w) (i : Nat) (hi : i < 80) : w.cell? ⟨6, i, none⟩ = some (bv .u64 (rws.getD i 0)) := by
  have := h.r i (bv .u64 (rws.getD i 0)) (by rw [Array.getElem?_toList]; exact wc_get .u64 rws i hi)
  rwa [Nat.zero_add] at this
section
variable {n : Nat} (k : IntKind)
theorem pad_len (l : List (BitVec n)) (m : Nat) : (l ++ List.replicate m 0).length = l.length + m := by simp
theorem pad_get (l : List (BitVec n)) (m i : Nat) (h : i < l.length) : (wc k (l ++ List.replicate m 0))[i]? = some (bv k (l.getD i 0)) := by
  rw [wc_get k _ i (by rw [pad_len]; omega), List.getD_eq_getElem?_getD, List.getD_eq_getElem?_getD, List.getElem?_append_left h]
theorem pad_put (l : List (BitVec n)) (m m' i : Nat) (x : BitVec n) (h : l.length = i) (hm : m = m' + 1) : (wc k (l ++ List.replicate m 0)).setIfInBounds i (.int k (x.toNat : Int)) = wc k ((l ++ [x]) ++ List.replicate m' 0) := by
  subst h hm
  rw [wc_put, List.set_append_right _ _ (Nat.le_refl _), Nat.sub_self, List.replicate_succ, List.set_cons_zero, List.append_assoc]
  rfl
/-- the last one of a list that is filled is put again -/
theorem last_get (l : List (BitVec n)) (x : BitVec n) (m i : Nat) (h : l.length = i) : (wc k ((l ++ [x]) ++ List.replicate m 0))[i]? = some (bv k x) := by
  subst h
  rw [pad_get k _ m _ (by simp), List.getD_eq_getElem?_getD, List.getElem?_append_right (Nat.le_refl _), Nat.sub_self]
  rfl
theorem last_put (l : List (BitVec n)) (x y : BitVec n) (m i : Nat) (h : l.length = i) : (wc k ((l ++ [x]) ++ List.replicate m 0)).setIfInBounds i (.int k (y.toNat : Int)) = wc k ((l ++ [y]) ++ List.replicate m 0) := by
  subst h
  rw [wc_put, List.append_assoc, List.set_append_right _ _ (Nat.le_refl _), Nat.sub_self, List.append_assoc]
  rfl
end
end Go.Proofs.YtefjnfeckenmkaaDoor.Hh
