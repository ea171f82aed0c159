/-
  Base: operations, bytes, appending; what is the same at every seat.
-/
import Derived.Test.YtjedhnjjgmbcbaaOps
import Derived.Lib.ConvBytes
import Derived.BigCall
import Derived.Deep.OwnRows
import Derived.Laws.AppendOwn
import Derived.Laws.IdiomCopy
import Derived.Lib.AppendStr
import Derived.Laws.MakeOwn
import Derived.Maps.AppendAt
namespace Go.Proofs.Ytjedhnjjgmbcbaa
open Go.RowKit

/-! HB -/
/-- a call that keeps old memory, as a sure operation -/
theorem sure_call {ops : Array Oper} {Q : Exit → Act → World → Prop} {S : World → Prop} {F : Act} {dst : Option Tmp} {f : FuncId} {xs : Array Operand} {ats : Array TypeId} {ty : TypeId} {pos : String} {aft : Array Edge} {gd : Option (Nat × Bool)} {v : Value}
    (hw : Region.wanted ⟨dst, .call { callee := .value (.func f), args := xs, argTypes := ats }, ty, pos, aft, gd⟩ (yielded ops F.tmps) = true) (hp : F.put dst v = F)
    (hr : ∀ args w, (callFunc f args).run Try.prog w = .ok (.enter f args) w) (hk : ∀ w w', S w → Below w.heap.size w w' → S w') (args : Array Value) (ha : #[] ++ xs.map F.eval ++ #[] = args)
    (hc : ∀ w, S w → Calls Try.prog f args w fun e w' => e = .returned v ∧ Below w.heap.size w w') :
    OpSure Try.prog ops Q S F ⟨dst, .call { callee := .value (.func f), args := xs, argTypes := ats }, ty, pos, aft, gd⟩ := by
  subst ha
  exact OpSure.call hw hp (fun w _ => by rw [execOp_call_go]; exact hr _ w) (fun w hS => (hc w hS).mono fun e w' h => ⟨h.1, hk w w' hS h.2⟩)
theorem enter3 (args : Array Value) (w : World) : (callFunc 3 args).run Try.prog w = .ok (.enter 3 args) w := by go_simp
theorem enter4 (args : Array Value) (w : World) : (callFunc 4 args).run Try.prog w = .ok (.enter 4 args) w := by go_simp
theorem enter5 (args : Array Value) (w : World) : (callFunc 5 args).run Try.prog w = .ok (.enter 5 args) w := by go_simp
theorem enter6 (args : Array Value) (w : World) : (callFunc 6 args).run Try.prog w = .ok (.enter 6 args) w := by go_simp
theorem enter7 (args : Array Value) (w : World) : (callFunc 7 args).run Try.prog w = .ok (.enter 7 args) w := by go_simp
theorem enter8 (args : Array Value) (w : World) : (callFunc 8 args).run Try.prog w = .ok (.enter 8 args) w := by go_simp
theorem enter9 (args : Array Value) (w : World) : (callFunc 9 args).run Try.prog w = .ok (.enter 9 args) w := by go_simp
theorem enter10 (args : Array Value) (w : World) : (callFunc 10 args).run Try.prog w = .ok (.enter 10 args) w := by go_simp
theorem enter11 (args : Array Value) (w : World) : (callFunc 11 args).run Try.prog w = .ok (.enter 11 args) w := by go_simp
theorem enter12 (args : Array Value) (w : World) : (callFunc 12 args).run Try.prog w = .ok (.enter 12 args) w := by go_simp
theorem enter13 (args : Array Value) (w : World) : (callFunc 13 args).run Try.prog w = .ok (.enter 13 args) w := by go_simp
theorem enter14 (args : Array Value) (w : World) : (callFunc 14 args).run Try.prog w = .ok (.enter 14 args) w := by go_simp
theorem enter15 (args : Array Value) (w : World) : (callFunc 15 args).run Try.prog w = .ok (.enter 15 args) w := by go_simp
theorem enter16 (args : Array Value) (w : World) : (callFunc 16 args).run Try.prog w = .ok (.enter 16 args) w := by go_simp
theorem enter17 (args : Array Value) (w : World) : (callFunc 17 args).run Try.prog w = .ok (.enter 17 args) w := by go_simp
theorem enter18 (args : Array Value) (w : World) : (callFunc 18 args).run Try.prog w = .ok (.enter 18 args) w := by go_simp
theorem enter19 (args : Array Value) (w : World) : (callFunc 19 args).run Try.prog w = .ok (.enter 19 args) w := by go_simp
theorem enter20 (args : Array Value) (w : World) : (callFunc 20 args).run Try.prog w = .ok (.enter 20 args) w := by go_simp
theorem enter21 (args : Array Value) (w : World) : (callFunc 21 args).run Try.prog w = .ok (.enter 21 args) w := by go_simp
theorem enter22 (args : Array Value) (w : World) : (callFunc 22 args).run Try.prog w = .ok (.enter 22 args) w := by go_simp
theorem enter23 (args : Array Value) (w : World) : (callFunc 23 args).run Try.prog w = .ok (.enter 23 args) w := by go_simp
theorem enter24 (args : Array Value) (w : World) : (callFunc 24 args).run Try.prog w = .ok (.enter 24 args) w := by go_simp
theorem enter25 (args : Array Value) (w : World) : (callFunc 25 args).run Try.prog w = .ok (.enter 25 args) w := by go_simp
theorem enter26 (args : Array Value) (w : World) : (callFunc 26 args).run Try.prog w = .ok (.enter 26 args) w := by go_simp
theorem enter27 (args : Array Value) (w : World) : (callFunc 27 args).run Try.prog w = .ok (.enter 27 args) w := by go_simp
theorem enter28 (args : Array Value) (w : World) : (callFunc 28 args).run Try.prog w = .ok (.enter 28 args) w := by go_simp
theorem enter29 (args : Array Value) (w : World) : (callFunc 29 args).run Try.prog w = .ok (.enter 29 args) w := by go_simp
theorem enter30 (args : Array Value) (w : World) : (callFunc 30 args).run Try.prog w = .ok (.enter 30 args) w := by go_simp
theorem enter31 (args : Array Value) (w : World) : (callFunc 31 args).run Try.prog w = .ok (.enter 31 args) w := by go_simp
theorem enter32 (args : Array Value) (w : World) : (callFunc 32 args).run Try.prog w = .ok (.enter 32 args) w := by go_simp
theorem enter33 (args : Array Value) (w : World) : (callFunc 33 args).run Try.prog w = .ok (.enter 33 args) w := by go_simp
theorem enter34 (args : Array Value) (w : World) : (callFunc 34 args).run Try.prog w = .ok (.enter 34 args) w := by go_simp
theorem enter35 (args : Array Value) (w : World) : (callFunc 35 args).run Try.prog w = .ok (.enter 35 args) w := by go_simp
theorem enter36 (args : Array Value) (w : World) : (callFunc 36 args).run Try.prog w = .ok (.enter 36 args) w := by go_simp
theorem enter37 (args : Array Value) (w : World) : (callFunc 37 args).run Try.prog w = .ok (.enter 37 args) w := by go_simp
theorem enter38 (args : Array Value) (w : World) : (callFunc 38 args).run Try.prog w = .ok (.enter 38 args) w := by go_simp
theorem enter39 (args : Array Value) (w : World) : (callFunc 39 args).run Try.prog w = .ok (.enter 39 args) w := by go_simp
theorem enter40 (args : Array Value) (w : World) : (callFunc 40 args).run Try.prog w = .ok (.enter 40 args) w := by go_simp
theorem enter41 (args : Array Value) (w : World) : (callFunc 41 args).run Try.prog w = .ok (.enter 41 args) w := by go_simp
theorem enter42 (args : Array Value) (w : World) : (callFunc 42 args).run Try.prog w = .ok (.enter 42 args) w := by go_simp
theorem enter43 (args : Array Value) (w : World) : (callFunc 43 args).run Try.prog w = .ok (.enter 43 args) w := by go_simp
theorem enter44 (args : Array Value) (w : World) : (callFunc 44 args).run Try.prog w = .ok (.enter 44 args) w := by go_simp
theorem enter45 (args : Array Value) (w : World) : (callFunc 45 args).run Try.prog w = .ok (.enter 45 args) w := by go_simp
theorem enter46 (args : Array Value) (w : World) : (callFunc 46 args).run Try.prog w = .ok (.enter 46 args) w := by go_simp
theorem enter47 (args : Array Value) (w : World) : (callFunc 47 args).run Try.prog w = .ok (.enter 47 args) w := by go_simp
theorem enter48 (args : Array Value) (w : World) : (callFunc 48 args).run Try.prog w = .ok (.enter 48 args) w := by go_simp
theorem enter49 (args : Array Value) (w : World) : (callFunc 49 args).run Try.prog w = .ok (.enter 49 args) w := by go_simp
theorem enter50 (args : Array Value) (w : World) : (callFunc 50 args).run Try.prog w = .ok (.enter 50 args) w := by go_simp
theorem enter51 (args : Array Value) (w : World) : (callFunc 51 args).run Try.prog w = .ok (.enter 51 args) w := by go_simp
theorem enter52 (args : Array Value) (w : World) : (callFunc 52 args).run Try.prog w = .ok (.enter 52 args) w := by go_simp
theorem enter53 (args : Array Value) (w : World) : (callFunc 53 args).run Try.prog w = .ok (.enter 53 args) w := by go_simp
theorem enter54 (args : Array Value) (w : World) : (callFunc 54 args).run Try.prog w = .ok (.enter 54 args) w := by go_simp
theorem enter55 (args : Array Value) (w : World) : (callFunc 55 args).run Try.prog w = .ok (.enter 55 args) w := by go_simp
theorem enter56 (args : Array Value) (w : World) : (callFunc 56 args).run Try.prog w = .ok (.enter 56 args) w := by go_simp
theorem enter57 (args : Array Value) (w : World) : (callFunc 57 args).run Try.prog w = .ok (.enter 57 args) w := by go_simp
theorem enter58 (args : Array Value) (w : World) : (callFunc 58 args).run Try.prog w = .ok (.enter 58 args) w := by go_simp
theorem enter59 (args : Array Value) (w : World) : (callFunc 59 args).run Try.prog w = .ok (.enter 59 args) w := by go_simp
theorem enter60 (args : Array Value) (w : World) : (callFunc 60 args).run Try.prog w = .ok (.enter 60 args) w := by go_simp
theorem enter61 (args : Array Value) (w : World) : (callFunc 61 args).run Try.prog w = .ok (.enter 61 args) w := by go_simp
theorem enter62 (args : Array Value) (w : World) : (callFunc 62 args).run Try.prog w = .ok (.enter 62 args) w := by go_simp
theorem enter63 (args : Array Value) (w : World) : (callFunc 63 args).run Try.prog w = .ok (.enter 63 args) w := by go_simp
theorem enter64 (args : Array Value) (w : World) : (callFunc 64 args).run Try.prog w = .ok (.enter 64 args) w := by go_simp
theorem enter65 (args : Array Value) (w : World) : (callFunc 65 args).run Try.prog w = .ok (.enter 65 args) w := by go_simp
theorem enter66 (args : Array Value) (w : World) : (callFunc 66 args).run Try.prog w = .ok (.enter 66 args) w := by go_simp
theorem enter67 (args : Array Value) (w : World) : (callFunc 67 args).run Try.prog w = .ok (.enter 67 args) w := by go_simp
theorem enter68 (args : Array Value) (w : World) : (callFunc 68 args).run Try.prog w = .ok (.enter 68 args) w := by go_simp
theorem enter69 (args : Array Value) (w : World) : (callFunc 69 args).run Try.prog w = .ok (.enter 69 args) w := by go_simp
theorem enter70 (args : Array Value) (w : World) : (callFunc 70 args).run Try.prog w = .ok (.enter 70 args) w := by go_simp
theorem enter71 (args : Array Value) (w : World) : (callFunc 71 args).run Try.prog w = .ok (.enter 71 args) w := by go_simp
theorem enter72 (args : Array Value) (w : World) : (callFunc 72 args).run Try.prog w = .ok (.enter 72 args) w := by go_simp
theorem enter73 (args : Array Value) (w : World) : (callFunc 73 args).run Try.prog w = .ok (.enter 73 args) w := by go_simp
theorem enter74 (args : Array Value) (w : World) : (callFunc 74 args).run Try.prog w = .ok (.enter 74 args) w := by go_simp
theorem enter75 (args : Array Value) (w : World) : (callFunc 75 args).run Try.prog w = .ok (.enter 75 args) w := by go_simp
theorem enter76 (args : Array Value) (w : World) : (callFunc 76 args).run Try.prog w = .ok (.enter 76 args) w := by go_simp
theorem enter77 (args : Array Value) (w : World) : (callFunc 77 args).run Try.prog w = .ok (.enter 77 args) w := by go_simp
theorem enter78 (args : Array Value) (w : World) : (callFunc 78 args).run Try.prog w = .ok (.enter 78 args) w := by go_simp
theorem enter79 (args : Array Value) (w : World) : (callFunc 79 args).run Try.prog w = .ok (.enter 79 args) w := by go_simp
theorem enter80 (args : Array Value) (w : World) : (callFunc 80 args).run Try.prog w = .ok (.enter 80 args) w := by go_simp
theorem enter81 (args : Array Value) (w : World) : (callFunc 81 args).run Try.prog w = .ok (.enter 81 args) w := by go_simp
theorem enter82 (args : Array Value) (w : World) : (callFunc 82 args).run Try.prog w = .ok (.enter 82 args) w := by go_simp
theorem enter83 (args : Array Value) (w : World) : (callFunc 83 args).run Try.prog w = .ok (.enter 83 args) w := by go_simp
theorem enter84 (args : Array Value) (w : World) : (callFunc 84 args).run Try.prog w = .ok (.enter 84 args) w := by go_simp
theorem enter85 (args : Array Value) (w : World) : (callFunc 85 args).run Try.prog w = .ok (.enter 85 args) w := by go_simp
theorem enter86 (args : Array Value) (w : World) : (callFunc 86 args).run Try.prog w = .ok (.enter 86 args) w := by go_simp
theorem enter87 (args : Array Value) (w : World) : (callFunc 87 args).run Try.prog w = .ok (.enter 87 args) w := by go_simp
theorem enter88 (args : Array Value) (w : World) : (callFunc 88 args).run Try.prog w = .ok (.enter 88 args) w := by go_simp
/-- an operation without world -/
theorem sure_plain {ops : Array Oper} {Q : Exit → Act → World → Prop} {S : World → Prop} {F : Act} {o : Oper} {v : Value}
    (hw : Region.wanted o (yielded ops F.tmps) = true) (hp : F.put o.dst v = F) (h : ∀ w, (execOp F.eval o).run Try.prog w = .ok (.value v) w) : OpSure Try.prog ops Q S F o := OpSure.take hw hp (fun w _ => h w)
/-! whole loads, new variables and their filling, words without world, in a region that makes variables -/
section
variable {ops : Array Oper} {Q : Exit → Act → World → Prop} {F : (Nat → Nat) → Act} {md : Region.Mode} {i : Nat} {dst : Option Tmp} {ty ty' : TypeId} {pos : String} {aft : Array Edge} {gd : Option (Nat × Bool)}
  {w0 : Base} {L : List (Nat × TypeId × Array Value)} {B : Nat} {k a0 t0 : Nat} {t : TypeId} {z : Array Value} {val : Nat → Array Value}
theorem ghost_load {x : Operand} {D : TypeDesc} {e : Nat × TypeId × Array Value} (j : Nat) (hj : L[j]? = some e) (hi : ∀ m, m < k → i ≠ a0 + m ∧ i ≠ t0 + m)
    (hw : ∀ g, Region.wanted ⟨dst, .load ty x, ty', pos, aft, gd⟩ (yielded ops (F g).tmps) = true) (hp : ∀ g, (F g).put dst (.agg e.2.2) = F g) (hx : ∀ g, (F g).eval x = .pointer (some ⟨e.1, 0, none⟩))
    (hu : Try.prog.underlying ty = some D) (hd : D.isRow = true) (hz : (Try.prog.info? ty).map (·.size) = some e.2.2.size) :
    OpGhost Try.prog md ops Q (GS w0 L B k a0 t0 t z val) F i ⟨dst, .load ty x, ty', pos, aft, gd⟩ :=
  OpGhost.take (v := fun _ => .agg e.2.2) hw hp (fun g _ _ h _ => ⟨run_load_blk (hx g) (h.held.get j hj) hu hd hz, h.load hi⟩)
theorem ghost_plain {o : Oper} {v : Value} (hi : ∀ m, m < k → i ≠ a0 + m ∧ i ≠ t0 + m) (hw : ∀ g, Region.wanted o (yielded ops (F g).tmps) = true) (hp : ∀ g, (F g).put o.dst v = F g)
    (hr : ∀ g w, (execOp (F g).eval o).run Try.prog w = .ok (.value v) w) : OpGhost Try.prog md ops Q (GS w0 L B k a0 t0 t z val) F i o :=
  OpGhost.take (v := fun _ => v) hw hp (fun g _ w h _ => ⟨hr g w, h.load hi⟩)
theorem ghost_call {f : FuncId} {xs : Array Operand} {ats : Array TypeId} {v : Value} (hi : ∀ m, m < k → i ≠ a0 + m ∧ i ≠ t0 + m)
    (hw : ∀ g, Region.wanted ⟨dst, .call { callee := .value (.func f), args := xs, argTypes := ats }, ty, pos, aft, gd⟩ (yielded ops (F g).tmps) = true) (hp : ∀ g, (F g).put dst v = F g)
    (hr : ∀ args w, (callFunc f args).run Try.prog w = .ok (.enter f args) w) (args : Array Value) (ha : ∀ g, #[] ++ xs.map (F g).eval ++ #[] = args)
    (hc : ∀ w, HA w0 L w → Calls Try.prog f args w fun e w' => e = .returned v ∧ Below w.heap.size w w') :
    OpGhost Try.prog md ops Q (GS w0 L B k a0 t0 t z val) F i ⟨dst, .call { callee := .value (.func f), args := xs, argTypes := ats }, ty, pos, aft, gd⟩ :=
  OpGhost.call (v := fun _ => v) (args := fun _ => args) hw hp (fun g w => by rw [execOp_call_go, ha g]; exact hr _ w) (fun _ _ w hS _ => (hc w hS.held).mono fun _ _ h => ⟨h.1, hS.call hi h.2⟩)
theorem ghost_make (j : Nat) (hj : j < k) (hi : i = a0 + j)
    (hw : ∀ g, Region.wanted ⟨dst, .alloc ty, ty', pos, aft, gd⟩ (yielded ops (F g).tmps) = true) (hp : ∀ g (m : Nat), (F g).put dst (.pointer (some ⟨m, 0, none⟩)) = F (up g i m))
    (hr : ∀ (ρ : Operand → Value) (w : World), (execOp ρ ⟨dst, .alloc ty, ty', pos, aft, gd⟩).run Try.prog w = .ok (.value (.pointer (some ⟨w.heap.size, 0, none⟩))) (w.alloc (.cells z ty))) :
    OpGhost Try.prog md ops Q (GS w0 L B k a0 t0 ty z val) F i ⟨dst, .alloc ty, ty', pos, aft, gd⟩ :=
  OpGhost.act (v := fun _ w => .pointer (some ⟨w.heap.size, 0, none⟩)) (n := fun _ w => w.heap.size) (W := fun _ w => w.alloc (.cells z ty)) hw (fun g w => hp g w.heap.size) (fun _ _ w h hd _ => ⟨hr _ w, h.make hj hi hd⟩)
theorem ghost_fill {x y : Operand} (j : Nat) (hj : j < k) (hi : i = t0 + j)
    (hw : ∀ g, Region.wanted ⟨dst, .store ty x y, ty', pos, aft, gd⟩ (yielded ops (F g).tmps) = true) (hp : ∀ g, (F g).put dst undef = F g)
    (hx : ∀ g, (F g).eval x = .pointer (some ⟨g (a0 + j), 0, none⟩)) (hy : ∀ g, (F g).eval y = .agg (val j)) (hz : (Try.prog.info? ty).map (·.size) = some (val j).size) (h1 : (val j).all (·.oneCell') = true)
    (he : (aft.any fun e => Region.binds .any e && e.on == a0 + j) = true) :
    OpGhost Try.prog .any ops Q (GS w0 L B k a0 t0 ty z val) F i ⟨dst, .store ty x y, ty', pos, aft, gd⟩ :=
  OpGhost.skips (W := fun g w => w.setCells (g (a0 + j)) 0 (val j).toList) hw hp (fun g d w h hd haft => by
    obtain ⟨m, hm, h3⟩ := Array.any_eq_true.1 he
    rw [Bool.and_eq_true, beq_iff_eq] at h3
    have ha : d (a0 + j) = true := by rw [← h3.2]; exact haft _ (Array.getElem_mem hm) h3.1
    have hb := (h.new.own j hj ha).2
    have hT : d (t0 + j) = false := hi ▸ hd
    rw [hT, if_neg (by decide)] at hb
    exact ⟨run_store_blk (hx g) (hy g) hb (h.siz j hj) hz h1, h.fill hj hi hd ha⟩)
end
section
variable {ops : Array Oper} {Q : Exit → Act → World → Prop} {F : (Nat → Nat) → Act} {md : Region.Mode} {i : Nat} {dst : Option Tmp} {ty ty' : TypeId} {pos : String} {aft : Array Edge} {gd : Option (Nat × Bool)}
  {w0 : Base} {L M : List (Nat × TypeId × Array Value)}
theorem gm_load {x : Operand} {D : TypeDesc} {e : Nat × TypeId × Array Value} (j : Nat) (hj : L[j]? = some e) (hi : M.all (fun x => x.1 != i) = true)
    (hw : ∀ g, Region.wanted ⟨dst, .load ty x, ty', pos, aft, gd⟩ (yielded ops (F g).tmps) = true) (hp : ∀ g, (F g).put dst (.agg e.2.2) = F g) (hx : ∀ g, (F g).eval x = .pointer (some ⟨e.1, 0, none⟩))
    (hu : Try.prog.underlying ty = some D) (hd : D.isRow = true) (hz : (Try.prog.info? ty).map (·.size) = some e.2.2.size) :
    OpGhost Try.prog md ops Q (GM w0 L M) F i ⟨dst, .load ty x, ty', pos, aft, gd⟩ :=
  OpGhost.take (v := fun _ => .agg e.2.2) hw hp (fun g _ w h _ => ⟨run_load_blk (hx g) (h.held.get j hj) hu hd hz, h.call hi (Below.refl _ w)⟩)
theorem gm_plain {o : Oper} {v : (Nat → Nat) → Value} (hi : M.all (fun x => x.1 != i) = true) (hw : ∀ g, Region.wanted o (yielded ops (F g).tmps) = true) (hp : ∀ g, (F g).put o.dst (v g) = F g)
    (hr : ∀ g w, (execOp (F g).eval o).run Try.prog w = .ok (.value (v g)) w) : OpGhost Try.prog md ops Q (GM w0 L M) F i o :=
  OpGhost.take (v := v) hw hp (fun g _ w h _ => ⟨hr g w, h.call hi (Below.refl _ w)⟩)
theorem gm_skip {o : Oper} (hi : M.all (fun x => x.1 != i) = true) (hw : ∀ g, Region.wanted o (yielded ops (F g).tmps) = false) (hp : ∀ g, (F g).put o.dst undef = F g) : OpGhost Try.prog md ops Q (GM w0 L M) F i o := fun g _ w h _ _ => by
  rw [if_neg (by rw [hw g]; decide)]
  exact ⟨hp g, h.call hi (Below.refl _ w)⟩
/-- an operation that reads a block that the region makes -/
theorem gm_reads {o : Oper} {v : Value} (j : Nat) {e : Nat × TypeId × Array Value} (hj : M[j]? = some e) (hi : M.all (fun x => x.1 != i) = true) (hw : ∀ g, Region.wanted o (yielded ops (F g).tmps) = true) (hp : ∀ g, (F g).put o.dst v = F g)
    (he : (o.after.any fun x => Region.binds md x && x.on == e.1) = true) (hr : ∀ g w, Blk w (g e.1) e.2.1 e.2.2 → (execOp (F g).eval o).run Try.prog w = .ok (.value v) w) : OpGhost Try.prog md ops Q (GM w0 L M) F i o :=
  OpGhost.take (v := fun _ => v) hw hp (fun g d w h haft => by
    obtain ⟨m, hm, h3⟩ := Array.any_eq_true.1 he
    rw [Bool.and_eq_true, beq_iff_eq] at h3
    have hd : d e.1 = true := by rw [← h3.2]; exact haft _ (Array.getElem_mem hm) h3.1
    exact ⟨hr g w (h.get j hj hd), h.call hi (Below.refl _ w)⟩)
theorem gm_call {f : FuncId} {xs : Array Operand} {ats : Array TypeId} {v : Value} (hi : M.all (fun x => x.1 != i) = true)
    (hw : ∀ g, Region.wanted ⟨dst, .call { callee := .value (.func f), args := xs, argTypes := ats }, ty, pos, aft, gd⟩ (yielded ops (F g).tmps) = true) (hp : ∀ g, (F g).put dst v = F g)
    (hr : ∀ args w, (callFunc f args).run Try.prog w = .ok (.enter f args) w) (args : Array Value) (ha : ∀ g, #[] ++ xs.map (F g).eval ++ #[] = args)
    (hc : ∀ w, HA w0 L w → Calls Try.prog f args w fun e w' => e = .returned v ∧ Below w.heap.size w w') :
    OpGhost Try.prog md ops Q (GM w0 L M) F i ⟨dst, .call { callee := .value (.func f), args := xs, argTypes := ats }, ty, pos, aft, gd⟩ :=
  OpGhost.call (v := fun _ => v) (args := fun _ => args) hw hp (fun g w => by rw [execOp_call_go, ha g]; exact hr _ w) (fun _ _ w hS _ => (hc w hS.held).mono fun _ _ h => ⟨h.1, hS.call hi h.2⟩)
theorem gm_make {o : Oper} {t : TypeId} {c : Array Value} (v : Nat → Value) (hi : M.all (fun x => x.1 != i || (decide (x.2.1 = t))) = true) (hc : ∀ x ∈ M, x.1 = i → x.2.2 = c) (hw : ∀ g, Region.wanted o (yielded ops (F g).tmps) = true)
    (hp : ∀ g (m : Nat), (F g).put o.dst (v m) = F (up g i m)) (hr : ∀ g w, (execOp (F g).eval o).run Try.prog w = .ok (.value (v w.heap.size)) (w.alloc (.cells c t))) : OpGhost Try.prog md ops Q (GM w0 L M) F i o :=
  OpGhost.act (v := fun _ w => v w.heap.size) (n := fun _ w => w.heap.size) (W := fun _ w => w.alloc (.cells c t)) hw (fun g w => hp g w.heap.size) (fun g _ w h _ _ => ⟨hr g w, h.make hi hc⟩)
end
/-- a loop whose measure gets less -/
theorem rounds_more {P : Program} {Q : Exit → Act → World → Prop} {c : Code} : ∀ (n : Nat) (a : Act) (w : World), Code.rounds P c Q n a w → Code.rounds P c Q (n + 1) a w
  | 0, _, _, h => h.elim
  | n + 1, a, w, h => by
    rw [rounds_succ] at h ⊢
    exact Code.wp_mono (fun e a w he => by cases e <;> first | exact rounds_more n a w he | exact he) h
theorem rounds_le {P : Program} {Q : Exit → Act → World → Prop} {c : Code} {n m : Nat} (h : n ≤ m) {a : Act} {w : World} (hr : Code.rounds P c Q n a w) : Code.rounds P c Q m a w := by
  induction h with
  | refl => exact hr
  | step _ ih => exact rounds_more _ _ _ ih
theorem wp_while {P : Program} {Q : Exit → Act → World → Prop} {c : Code} (I : Nat → Act → World → Prop) (m : Nat) {a : Act} {w : World} (h0 : I m a w)
    (round : ∀ m a w, I m a w → c.wp P (Exit.then (fun a' w' => ∃ m', m' < m ∧ I m' a' w') Q) a w) : (Code.loop c).wp P Q a w := by
  have key : ∀ m a w, I m a w → Code.rounds P c Q (m + 1) a w := by
    intro m
    induction m using Nat.strongRecOn with
    | ind m ih =>
      intro a w hI
      rw [rounds_succ]
      refine Code.wp_mono (fun e a w he => ?_) (round m a w hI)
      cases e with
      | normal =>
        obtain ⟨m', hm, h'⟩ := he
        exact rounds_le hm (ih m' hm a w h')
      | _ => exact he
  exact wp_loop_rounds (m + 1) (key m a w h0)
theorem run_callv {ρ : Operand → Value} {x : Operand} {xs : Array Operand} {ats : Array TypeId} {w : World} {dst : Option Tmp} {ty : TypeId} {pos : String} {aft : Array Edge} {gd : Option (Nat × Bool)} {f : FuncId} {cap args : Array Value}
    (hr : ∀ args w, (callFunc f args).run Try.prog w = .ok (.enter f args) w) (hx : ρ x = .func (.func f) #[] cap) (ha : #[] ++ xs.map ρ ++ cap = args) :
    (execOp ρ ⟨dst, .call { callee := .value x, args := xs, argTypes := ats }, ty, pos, aft, gd⟩).run Try.prog w = .ok (.enter f args) w := by
  subst ha
  simp only [execOp, resolve, hx, invoke, Deferred.ofValue, Sem.run_bind, Sem.run_pure, Result.andThen_ok]
  exact hr _ w
theorem up_true {d : Nat → Bool} {i m : Nat} (h : d m = true) : up d i true m = true := by
  by_cases e : m = i
  · rw [e]; exact up_at _ _ _
  · rw [up_ne _ _ e]; exact h
/-- pre: who comes ahead of whom -/
def Cl (pre : Nat → List Nat) (d : Nat → Bool) : Prop := ∀ i, d i = true → ∀ m ∈ pre i, d m = true
def ahead (aft : Array Edge) (l : List Nat) : Bool := l.all fun m => aft.any fun e => Region.binds .any e && e.on == m
theorem ahead_ok {aft : Array Edge} {l : List Nat} {d : Nat → Bool} (he : ahead aft l = true) (haft : ∀ e ∈ aft, Region.binds .any e = true → d e.on = true) : ∀ m ∈ l, d m = true := fun m hm => by
  obtain ⟨k, hk, h3⟩ := Array.any_eq_true.1 (List.all_eq_true.1 he m hm)
  rw [Bool.and_eq_true, beq_iff_eq] at h3
  rw [← h3.2]
  exact haft _ (Array.getElem_mem hk) h3.1
theorem Cl.up {pre : Nat → List Nat} {d : Nat → Bool} {i : Nat} (h : Cl pre d) (hm : ∀ m ∈ pre i, d m = true) : Cl pre (up d i true) := fun i' h' m hm' => by
  by_cases e : i' = i
  · rw [e] at hm'; exact up_true (hm m hm')
  · rw [up_ne _ _ e] at h'; exact up_true (h i' h' m hm')
theorem Cl.start {ll : List (List Nat)} {n : Nat} {d : Nat → Bool} (hd : ∀ j, j < n → d j = false) (hn : ll.length ≤ n) : Cl (fun i => ll.getD i []) d := fun i h m hm => by
  by_cases hi : i < ll.length
  · rw [hd i (Nat.lt_of_lt_of_le hi hn)] at h; cases h
  · have hm2 : m ∈ ll.getD i [] := hm
    rw [List.getD_eq_getElem?_getD, List.getElem?_eq_none (Nat.le_of_not_lt hi)] at hm2; cases hm2
section
variable {ops : Array Oper} {Q : Exit → Act → World → Prop} {F : (Nat → Nat) → Act} {md : Region.Mode} {i i0 i1 j q : Nat} {w0 : Base} {L M : List (Nat × TypeId × Array Value)} {B k a0 t0 : Nat} {t : TypeId} {z c : Array Value} {val : Nat → Array Value}
/-- an operation that reads what is held -/
theorem ghost_held {o : Oper} {v : Value} (hi : ∀ m, m < k → i ≠ a0 + m ∧ i ≠ t0 + m) (hw : ∀ g, Region.wanted o (yielded ops (F g).tmps) = true) (hp : ∀ g, (F g).put o.dst v = F g)
    (hr : ∀ g w, HA w0 L w → (execOp (F g).eval o).run Try.prog w = .ok (.value v) w) : OpGhost Try.prog md ops Q (GS w0 L B k a0 t0 t z val) F i o :=
  OpGhost.take (v := fun _ => v) hw hp (fun g _ w h _ => ⟨hr g w h.held, h.load hi⟩)
end

/-- a region that draws its order and changes one block, by number i0; who reads it ahead is ahead by data -/
structure GQ (w0 : Base) (L : List (Nat × TypeId × Array Value)) (pre : Nat → List Nat) (i0 j q : Nat) (t : TypeId) (c : Array Value) (g : Nat → Nat) (d : Nat → Bool) (w : World) : Prop where
  held : HA w0 (if d i0 = true then L.set j (q, t, c) else L) w
  seen : Cl pre d
section
variable {ops : Array Oper} {Q : Exit → Act → World → Prop} {F : (Nat → Nat) → Act} {i i0 j q : Nat} {dst : Option Tmp} {T ty : TypeId} {pos : String} {aft : Array Edge} {gd : Option (Nat × Bool)}
  {w0 : Base} {L : List (Nat × TypeId × Array Value)} {t : TypeId} {c : Array Value} {pre : Nat → List Nat}
theorem GQ.keep {g : Nat → Nat} {d : Nat → Bool} {w w' : World} (h : GQ w0 L pre i0 j q t c g d w) (hi : i ≠ i0) (hm : ∀ m ∈ pre i, d m = true) (hb : Below w.heap.size w w') : GQ w0 L pre i0 j q t c g (up d i true) w' :=
  ⟨by rw [up_ne _ _ (Ne.symm hi)]; exact h.held.keep _ _ hb, h.seen.up hm⟩
theorem gq_plain {o : Oper} {v : Value} (hi : i ≠ i0) (he : ahead o.after (pre i) = true) (hw : ∀ g, Region.wanted o (yielded ops (F g).tmps) = true) (hp : ∀ g, (F g).put o.dst v = F g)
    (hr : ∀ g w, (execOp (F g).eval o).run Try.prog w = .ok (.value v) w) : OpGhost Try.prog .any ops Q (GQ w0 L pre i0 j q t c) F i o :=
  OpGhost.take (v := fun _ => v) hw hp (fun g _ w h ha => ⟨hr g w, h.keep hi (ahead_ok he ha) (Below.refl _ w)⟩)
/-- what reads a block: another one, or ahead of the change -/
theorem gq_read {o : Oper} {v : Value} {e : Nat × TypeId × Array Value} (m : Nat) (hm : L[m]? = some e) (h0 : j ≠ m ∨ ∀ d, Cl pre d → d i0 = true → d i = true) (hi : i ≠ i0) (he : ahead o.after (pre i) = true) (hw : ∀ g, Region.wanted o (yielded ops (F g).tmps) = true) (hp : ∀ g, (F g).put o.dst v = F g)
    (hr : ∀ g w, Blk w e.1 e.2.1 e.2.2 → (execOp (F g).eval o).run Try.prog w = .ok (.value v) w) : OpGhost Try.prog .any ops Q (GQ w0 L pre i0 j q t c) F i o := fun g d w h hdi ha => by
  rw [if_pos (hw g)]
  unfold Oper.wp
  have hB : Blk w e.1 e.2.1 e.2.2 := by
    have hH := h.held
    rcases h0 with h0 | h0
    · split at hH
      · exact hH.get m (by rw [List.getElem?_set_ne h0]; exact hm)
      · exact hH.get m hm
    · rw [if_neg fun h' => by rw [h0 d h.seen h'] at hdi; cases hdi] at hH
      exact hH.get m hm
  rw [hr g w hB]
  exact ⟨g i, by rw [up_self]; exact hp g, by rw [up_self]; exact h.keep hi (ahead_ok he ha) (Below.refl _ w)⟩
theorem gq_old {o : Oper} {v : Value} (hi : i ≠ i0) (he : ahead o.after (pre i) = true) (hw : ∀ g, Region.wanted o (yielded ops (F g).tmps) = true) (hp : ∀ g, (F g).put o.dst v = F g)
    (hr : ∀ g w, Old w0 w → (execOp (F g).eval o).run Try.prog w = .ok (.value v) w) : OpGhost Try.prog .any ops Q (GQ w0 L pre i0 j q t c) F i o :=
  OpGhost.take (v := fun _ => v) hw hp (fun g _ w h ha => ⟨hr g w h.held.old, h.keep hi (ahead_ok he ha) (Below.refl _ w)⟩)
theorem gq_call {f : FuncId} {xs : Array Operand} {ats : Array TypeId} {v : Value} (hi : i ≠ i0) (he : ahead aft (pre i) = true)
    (hw : ∀ g, Region.wanted ⟨dst, .call { callee := .value (.func f), args := xs, argTypes := ats }, ty, pos, aft, gd⟩ (yielded ops (F g).tmps) = true) (hp : ∀ g, (F g).put dst v = F g)
    (hr : ∀ args w, (callFunc f args).run Try.prog w = .ok (.enter f args) w) (args : Array Value) (ha : ∀ g, #[] ++ xs.map (F g).eval ++ #[] = args)
    (hc : ∀ w, Old w0 w → Calls Try.prog f args w fun e w' => e = .returned v ∧ Below w.heap.size w w') :
    OpGhost Try.prog .any ops Q (GQ w0 L pre i0 j q t c) F i ⟨dst, .call { callee := .value (.func f), args := xs, argTypes := ats }, ty, pos, aft, gd⟩ :=
  OpGhost.call (v := fun _ => v) (args := fun _ => args) hw hp (fun g w => by rw [execOp_call_go, ha g]; exact hr _ w) (fun _ _ w hS h' => (hc w hS.held.old).mono fun _ _ h => ⟨h.1, hS.keep hi (ahead_ok he h') h.2⟩)
theorem gq_put {x y : Operand} {k : IntKind} {z : Int} {c0 : Array Value} {off : Nat} (hL : L[j]? = some (q, t, c0)) (hoff : off < c0.size) (hc : c0.setIfInBounds off (.int k z) = c) (hs : ∀ w, (sizeOf T).run Try.prog w = .ok 1 w) (he : ahead aft (pre i0) = true)
    (hw : ∀ g, Region.wanted ⟨dst, .store T x y, ty, pos, aft, gd⟩ (yielded ops (F g).tmps) = true) (hp : ∀ g, (F g).put dst undef = F g) (hx : ∀ g, (F g).eval x = .pointer (some ⟨q, off, none⟩)) (hy : ∀ g, (F g).eval y = .int k z) :
    OpGhost Try.prog .any ops Q (GQ w0 L pre i0 j q t c) F i0 ⟨dst, .store T x y, ty, pos, aft, gd⟩ :=
  OpGhost.skips (W := fun _ w => w.setCell ⟨q, off, none⟩ (.int k z)) hw hp (fun g d w h hd ha => by
    have hH := h.held
    rw [if_neg (by rw [hd]; decide)] at hH
    refine ⟨run_store1 hs (hx g) (hy g) (by rw [(hH.get j hL).cell off]; simp [hoff]) ((hH.get j hL).free off hoff), ?_, h.seen.up (ahead_ok he ha)⟩
    rw [up_at, if_pos rfl]
    have := hH.put j hL off (.int k z)
    rw [hc] at this
    exact this)
theorem GQ.start {g : Nat → Nat} {d : Nat → Bool} {w : World} (h : HA w0 L w) (hd : d i0 = false) (hc : Cl pre d) : GQ w0 L pre i0 j q t c g d w := ⟨by rw [hd]; exact h, hc⟩
end

/-- two changes, one behind the other: by number i0, then by number i1 -/
structure GE (w0 : Base) (L : List (Nat × TypeId × Array Value)) (L1 L2 : (Nat → Nat) → List (Nat × TypeId × Array Value)) (pre : Nat → List Nat) (i0 i1 : Nat) (g : Nat → Nat) (d : Nat → Bool) (w : World) : Prop where
  held : HA w0 (if d i1 = true then L2 g else if d i0 = true then L1 g else L) w
  seen : Cl pre d
section
variable {ops : Array Oper} {Q : Exit → Act → World → Prop} {F : (Nat → Nat) → Act} {i i0 i1 : Nat} {dst : Option Tmp} {T ty : TypeId} {pos : String} {aft : Array Edge} {gd : Option (Nat × Bool)}
  {w0 : Base} {L : List (Nat × TypeId × Array Value)} {L1 L2 : (Nat → Nat) → List (Nat × TypeId × Array Value)} {pre : Nat → List Nat}
theorem GE.keep {g : Nat → Nat} {d : Nat → Bool} {w : World} (h : GE w0 L L1 L2 pre i0 i1 g d w) (hi : i ≠ i0) (hi1 : i ≠ i1) (hm : ∀ m ∈ pre i, d m = true) : GE w0 L L1 L2 pre i0 i1 g (up d i true) w :=
  ⟨by rw [up_ne _ _ (Ne.symm hi), up_ne _ _ (Ne.symm hi1)]; exact h.held, h.seen.up hm⟩
theorem ge_plain {o : Oper} {v : Value} (hi : i ≠ i0) (hi1 : i ≠ i1) (he : ahead o.after (pre i) = true) (hw : ∀ g, Region.wanted o (yielded ops (F g).tmps) = true) (hp : ∀ g, (F g).put o.dst v = F g)
    (hr : ∀ g w, (execOp (F g).eval o).run Try.prog w = .ok (.value v) w) : OpGhost Try.prog .any ops Q (GE w0 L L1 L2 pre i0 i1) F i o :=
  OpGhost.take (v := fun _ => v) hw hp (fun g _ w h ha => ⟨hr g w, h.keep hi hi1 (ahead_ok he ha)⟩)
/-- what reads ahead of both -/
theorem ge_read {o : Oper} {v : Value} (hi : i ≠ i0) (hi1 : i ≠ i1) (h0 : ∀ d, Cl pre d → d i0 = true → d i = true) (h10 : i0 ∈ pre i1) (he : ahead o.after (pre i) = true) (hw : ∀ g, Region.wanted o (yielded ops (F g).tmps) = true) (hp : ∀ g, (F g).put o.dst v = F g)
    (hr : ∀ g w, HA w0 L w → (execOp (F g).eval o).run Try.prog w = .ok (.value v) w) : OpGhost Try.prog .any ops Q (GE w0 L L1 L2 pre i0 i1) F i o := fun g d w h hdi ha => by
  rw [if_pos (hw g)]
  unfold Oper.wp
  have e0 : ¬ d i0 = true := fun h' => by rw [h0 d h.seen h'] at hdi; cases hdi
  have e1 : ¬ d i1 = true := fun h' => e0 (h.seen i1 h' i0 h10)
  have hH := h.held
  rw [if_neg e1, if_neg e0] at hH
  rw [hr g w hH]
  exact ⟨g i, by rw [up_self]; exact hp g, by rw [up_self]; exact h.keep hi hi1 (ahead_ok he ha)⟩
/-- the first change -/
theorem ge_act0 {o : Oper} {v : (Nat → Nat) → World → Value} {W : (Nat → Nat) → World → World} {n : (Nat → Nat) → World → Nat} (hii : i1 ≠ i0) (h10 : i0 ∈ pre i1) (he : ahead o.after (pre i0) = true) (hw : ∀ g, Region.wanted o (yielded ops (F g).tmps) = true)
    (hp : ∀ g w, (F g).put o.dst (v g w) = F (up g i0 (n g w)))
    (hr : ∀ g w, HA w0 L w → (execOp (F g).eval o).run Try.prog w = .ok (.value (v g w)) (W g w) ∧ HA w0 (L1 (up g i0 (n g w))) (W g w)) : OpGhost Try.prog .any ops Q (GE w0 L L1 L2 pre i0 i1) F i0 o := fun g d w h hdi ha => by
  rw [if_pos (hw g)]
  unfold Oper.wp
  have e0 : ¬ d i0 = true := by rw [hdi]; decide
  have e1 : ¬ d i1 = true := fun h' => e0 (h.seen i1 h' i0 h10)
  have hH := h.held
  rw [if_neg e1, if_neg e0] at hH
  rw [(hr g w hH).1]
  exact ⟨n g w, hp g w, by rw [up_ne _ _ hii, if_neg e1, up_at, if_pos rfl]; exact (hr g w hH).2, h.seen.up (ahead_ok he ha)⟩
/-- the second -/
theorem ge_act1 {o : Oper} {v : Value} {W : (Nat → Nat) → World → World} (h10 : i0 ∈ pre i1) (he : ahead o.after (pre i1) = true) (hw : ∀ g, Region.wanted o (yielded ops (F g).tmps) = true)
    (hp : ∀ g, (F g).put o.dst v = F g)
    (hr : ∀ g w, HA w0 (L1 g) w → (execOp (F g).eval o).run Try.prog w = .ok (.value v) (W g w) ∧ HA w0 (L2 g) (W g w)) : OpGhost Try.prog .any ops Q (GE w0 L L1 L2 pre i0 i1) F i1 o := fun g d w h hdi ha => by
  rw [if_pos (hw g)]
  unfold Oper.wp
  have e1 : ¬ d i1 = true := by rw [hdi]; decide
  have e0 : d i0 = true := ahead_ok he ha i0 h10
  have hH := h.held
  rw [if_neg e1, if_pos e0] at hH
  rw [(hr g w hH).1]
  exact ⟨g i1, by rw [up_self]; exact hp g, by rw [up_self, up_at, if_pos rfl]; exact (hr g w hH).2, h.seen.up (ahead_ok he ha)⟩
theorem ge_act1s {o : Oper} {W : (Nat → Nat) → World → World} (h10 : i0 ∈ pre i1) (he : ahead o.after (pre i1) = true) (hw : ∀ g, Region.wanted o (yielded ops (F g).tmps) = true)
    (hp : ∀ g, (F g).put o.dst undef = F g)
    (hr : ∀ g w, HA w0 (L1 g) w → (execOp (F g).eval o).run Try.prog w = .ok .skip (W g w) ∧ HA w0 (L2 g) (W g w)) : OpGhost Try.prog .any ops Q (GE w0 L L1 L2 pre i0 i1) F i1 o := fun g d w h hdi ha => by
  rw [if_pos (hw g)]
  unfold Oper.wp
  have e1 : ¬ d i1 = true := by rw [hdi]; decide
  have e0 : d i0 = true := ahead_ok he ha i0 h10
  have hH := h.held
  rw [if_neg e1, if_pos e0] at hH
  rw [(hr g w hH).1]
  exact ⟨g i1, by rw [up_self]; exact hp g, by rw [up_self, up_at, if_pos rfl]; exact (hr g w hH).2, h.seen.up (ahead_ok he ha)⟩
theorem GE.start {g : Nat → Nat} {d : Nat → Bool} {w : World} (h : HA w0 L w) (hd : d i0 = false) (hd1 : d i1 = false) (hc : Cl pre d) : GE w0 L L1 L2 pre i0 i1 g d w := ⟨by rw [hd, hd1]; exact h, hc⟩
end
/-! HW -/
/-- the two kinds of words -/
inductive WK : IntKind → Nat → Prop
  | s : WK .u32 32
  | l : WK .u64 64
/-- a word as a value -/
def bv {n : Nat} (k : IntKind) (x : BitVec n) : Value := iN k x.toNat
/-- words as cells -/
def wc {n : Nat} (k : IntKind) (l : List (BitVec n)) : Array Value := (l.map fun x => bv k x).toArray
theorem wc_size {n : Nat} (k : IntKind) (l : List (BitVec n)) : (wc k l).size = l.length := by simp [wc]
theorem wc_get {n : Nat} (k : IntKind) (l : List (BitVec n)) (i : Nat) (h : i < l.length) : (wc k l)[i]? = some (bv k (l.getD i 0)) := by
  simp [wc, List.getElem?_eq_getElem h]
theorem wc_put {n : Nat} (k : IntKind) (l : List (BitVec n)) (i : Nat) (x : BitVec n) : (wc k l).setIfInBounds i (.int k (x.toNat : Int)) = wc k (l.set i x) := by
  unfold wc
  rw [List.setIfInBounds_toArray, List.map_set]
  rfl
theorem one_wc {n : Nat} (k : IntKind) (l : List (BitVec n)) : (wc k l).all (·.oneCell') = true := all_oneCell_toArray fun v hv => by
  obtain ⟨x, _, rfl⟩ := List.mem_map.1 hv
  rfl
theorem u32n (a : Nat) : IntKind.u32.wrap (a : Int) = ((a % 4294967296 : Nat) : Int) := by rw [IntKind.wrap_u32']; omega
theorem u64n (a : Nat) : IntKind.u64.wrap (a : Int) = ((a % 18446744073709551616 : Nat) : Int) := by
  simp [IntKind.wrap, IntKind.bits, IntKind.signed]
section
variable {ρ : Operand → Value} {x y : Operand} {w : World} {dst : Option Tmp} {T T2 ty : TypeId} {pos : String} {aft : Array Edge} {gd : Option (Nat × Bool)} {k : IntKind} {n : Nat} {a b : BitVec n} {P : Program}
theorem run_addv (hk : WK k n) (hx : ρ x = bv k a) (hy : ρ y = bv k b) : (execOp ρ ⟨dst, .binOp .add T x y T2, ty, pos, aft, gd⟩).run P w = .ok (.value (bv k (a + b))) w := by
  cases hk
  · have h := u32n (a.toNat + b.toNat)
    simp only [execOp, hx, hy, bv, iN, BitVec.toNat_add]
    simpa [binOp, go_sem] using h
  · have h := u64n (a.toNat + b.toNat)
    simp only [execOp, hx, hy, bv, iN, BitVec.toNat_add]
    simpa [binOp, go_sem] using h
theorem run_xorv (hk : WK k n) (hx : ρ x = bv k a) (hy : ρ y = bv k b) : (execOp ρ ⟨dst, .binOp .xor T x y T2, ty, pos, aft, gd⟩).run P w = .ok (.value (bv k (a ^^^ b))) w := by
  cases hk
  · have h := u32_xor_nat a.toNat b.toNat a.isLt b.isLt
    simp only [execOp, hx, hy, bv, iN, BitVec.toNat_xor]
    simpa [binOp, go_sem] using h
  · have h := u64_xor_nat a.toNat b.toNat a.isLt b.isLt
    simp only [execOp, hx, hy, bv, iN, BitVec.toNat_xor]
    simpa [binOp, go_sem] using h
theorem run_andv (hk : WK k n) (hx : ρ x = bv k a) (hy : ρ y = bv k b) : (execOp ρ ⟨dst, .binOp .and T x y T2, ty, pos, aft, gd⟩).run P w = .ok (.value (bv k (a &&& b))) w := by
  cases hk
  · have h := run_and32 (P := P) (w := w) (dst := dst) (T := T) (T2 := T2) (ty := ty) (pos := pos) (aft := aft) (gd := gd) hx hy a.isLt b.isLt
    unfold bv; rw [BitVec.toNat_and]; exact h
  · have h := run_and64 (P := P) (w := w) (dst := dst) (T := T) (T2 := T2) (ty := ty) (pos := pos) (aft := aft) (gd := gd) hx hy a.isLt b.isLt
    unfold bv; rw [BitVec.toNat_and]; exact h
theorem run_orv (hk : WK k n) (hx : ρ x = bv k a) (hy : ρ y = bv k b) : (execOp ρ ⟨dst, .binOp .or T x y T2, ty, pos, aft, gd⟩).run P w = .ok (.value (bv k (a ||| b))) w := by
  cases hk
  · have h := run_or32 (P := P) (w := w) (dst := dst) (T := T) (T2 := T2) (ty := ty) (pos := pos) (aft := aft) (gd := gd) hx hy a.isLt b.isLt
    unfold bv; rw [BitVec.toNat_or]; exact h
  · have h := run_or64 (P := P) (w := w) (dst := dst) (T := T) (T2 := T2) (ty := ty) (pos := pos) (aft := aft) (gd := gd) hx hy a.isLt b.isLt
    unfold bv; rw [BitVec.toNat_or]; exact h
theorem run_shrv {k2 : IntKind} {m : Nat} (hk : WK k n) (hx : ρ x = bv k a) (hy : ρ y = iN k2 m) : (execOp ρ ⟨dst, .binOp .shr T x y T2, ty, pos, aft, gd⟩).run P w = .ok (.value (bv k (a >>> m))) w := by
  have e : (a >>> m).toNat = a.toNat / 2 ^ m := by rw [BitVec.toNat_ushiftRight, Nat.shiftRight_eq_div_pow]
  have key : m ≤ k.bits ∨ k.bits < m := Nat.lt_or_ge k.bits m |>.symm
  rcases key with h | h
  · have := run_shr (P := P) (w := w) (dst := dst) (T := T) (T2 := T2) (ty := ty) (pos := pos) (aft := aft) (gd := gd) hx hy h
    rw [this, bv, e]
  · have hz : ∀ {j : Nat}, n ≤ j → a.toNat / 2 ^ j = 0 := fun {j} hj => Nat.div_eq_of_lt (Nat.lt_of_lt_of_le a.isLt (Nat.pow_le_pow_right (by decide) hj))
    have e2 : min m k.bits = k.bits := Nat.min_eq_right (Nat.le_of_lt h)
    cases hk
    · have h3 : a.toNat / 2 ^ m = a.toNat / 2 ^ 32 := by rw [hz (j := m) (by simp [IntKind.bits] at h; omega), hz (j := 32) (by omega)]
      simp only [execOp, hx, hy, bv, iN, e, h3]
      simp [IntKind.bits] at e2
      simp [binOp, go_sem, e2]
    · have h3 : a.toNat / 2 ^ m = a.toNat / 2 ^ 64 := by rw [hz (j := m) (by simp [IntKind.bits] at h; omega), hz (j := 64) (by omega)]
      simp only [execOp, hx, hy, bv, iN, e, h3]
      simp [IntKind.bits] at e2
      simp [binOp, go_sem, e2]
theorem run_shlv {k2 : IntKind} {m : Nat} (hk : WK k n) (hx : ρ x = bv k a) (hy : ρ y = iN k2 m) (hm : m ≤ n) : (execOp ρ ⟨dst, .binOp .shl T x y T2, ty, pos, aft, gd⟩).run P w = .ok (.value (bv k (a <<< m))) w := by
  have e : (a <<< m).toNat = a.toNat * 2 ^ m % 2 ^ n := by rw [BitVec.toNat_shiftLeft, Nat.shiftLeft_eq]
  cases hk
  · have h := u32n (a.toNat * 2 ^ m)
    have e2 : min m 32 = m := Nat.min_eq_left hm
    simp only [execOp, hx, hy, bv, iN, e]
    simpa [binOp, go_sem, e2] using h
  · have h := u64n (a.toNat * 2 ^ m)
    have e2 : min m 64 = m := Nat.min_eq_left hm
    simp only [execOp, hx, hy, bv, iN, e]
    simpa [binOp, go_sem, e2] using h
end
/-! HX -/
def bl (s : ByteArray) : List UInt8 := s.data.toList
theorem bl_len (s : ByteArray) : (bl s).length = s.size := by unfold bl; rw [Array.length_toList]; rfl
/-- a byte as a value -/
def by8 (u : UInt8) : Value := iN .u8 u.toNat
/-- bytes as cells -/
def bc (l : List UInt8) : Array Value := (l.map by8).toArray
theorem bc_size (l : List UInt8) : (bc l).size = l.length := by simp [bc]
theorem bc_get (l : List UInt8) (i : Nat) (h : i < l.length) : (bc l)[i]? = some (by8 (l.getD i 0)) := by
  simp [bc, List.getElem?_eq_getElem h]
theorem one_bc (l : List UInt8) : (bc l).all (·.oneCell') = true := all_oneCell_toArray fun v hv => by
  obtain ⟨x, _, rfl⟩ := List.mem_map.1 hv
  rfl
section
variable {ρ : Operand → Value} {x y : Operand} {w : World} {dst : Option Tmp} {T T2 ty : TypeId} {pos : String} {aft : Array Edge} {gd : Option (Nat × Bool)} {k : IntKind} {n : Nat} {a b : BitVec n} 
theorem run_cut {P : Program} {a : BitVec 64} (hx : ρ x = bv .u64 a) (hT : P.underlying T = some (.int .u64)) (hT2 : P.underlying T2 = some (.int .u32)) : (execOp ρ ⟨dst, .convert T T2 x, ty, pos, aft, gd⟩).run P w = .ok (.value (bv .u32 (a.setWidth 32))) w := by
  have h := u32n a.toNat
  simp only [execOp, hx, bv, iN, BitVec.toNat_setWidth]
  simpa [go_sem, hT, hT2] using h
theorem run_wide {P : Program} {u : UInt8} (hk : WK k n) (hx : ρ x = by8 u) (hT : P.underlying T = some (.int .u8)) (hT2 : P.underlying T2 = some (.int k)) : (execOp ρ ⟨dst, .convert T T2 x, ty, pos, aft, gd⟩).run P w = .ok (.value (bv k (BitVec.ofNat n u.toNat))) w := by
  cases hk
  · have h := u32n u.toNat
    simp only [execOp, hx, bv, by8, iN, BitVec.toNat_ofNat]
    simpa [go_sem, hT, hT2] using h
  · have h := u64n u.toNat
    simp only [execOp, hx, bv, by8, iN, BitVec.toNat_ofNat]
    simpa [go_sem, hT, hT2] using h
theorem run_low {P : Program} (hx : ρ x = bv k a) (hT : P.underlying T = some (.int k)) (hT2 : P.underlying T2 = some (.int .u8)) : (execOp ρ ⟨dst, .convert T T2 x, ty, pos, aft, gd⟩).run P w = .ok (.value (by8 (UInt8.ofNat a.toNat))) w := by
  have h : IntKind.u8.wrap (a.toNat : Int) = ((a.toNat % 256 : Nat) : Int) := by simp [IntKind.wrap, IntKind.bits, IntKind.signed]
  simp only [execOp, hx, bv, by8, iN, UInt8.toNat_ofNat']
  simpa [go_sem, hT, hT2] using h
theorem run_len28 {q : Option Addr} {m c : Nat} (hx : ρ x = .slice q m c) : (execOp ρ ⟨dst, .call { callee := .builtin .len, args := #[x], argTypes := #[52] }, ty, pos, aft, gd⟩).run Try.prog w = .ok (.value (iN .i64 m)) w := by
  simp only [execOp, iN]
  go_simp
theorem run_len {s : ByteArray} (hx : ρ x = .string s) : (execOp ρ ⟨dst, .call { callee := .builtin .len, args := #[x], argTypes := #[9] }, ty, pos, aft, gd⟩).run Try.prog w = .ok (.value (iN .i64 s.size)) w := by
  simp only [execOp, iN]
  go_simp
theorem run_min {i j : Nat} (hx : ρ x = iN .i64 i) (hy : ρ y = iN .i64 j) : (execOp ρ ⟨dst, .call { callee := .builtin .min, args := #[x, y], argTypes := #[3, 3] }, ty, pos, aft, gd⟩).run Try.prog w = .ok (.value (iN .i64 (min i j))) w := by
  simp only [execOp, iN] at hx hy ⊢
  go_simp
  split <;> omega
theorem run_cut_hi {s : ByteArray} {b : Nat} (hx : ρ x = .string s) (hy : ρ y = iN .i64 b) (hb : b ≤ s.size) : (execOp ρ ⟨dst, .slice 9 x none (some y) none, ty, pos, aft, gd⟩).run Try.prog w = .ok (.value (.string (s.extract 0 b))) w := by
  simp only [execOp, hx, Option.map, hy, iN]
  go_simp
theorem run_cut_lo {z : Operand} {s : ByteArray} {a : Nat} (hx : ρ x = .string s) (hz : ρ z = iN .i64 a) (ha : a ≤ s.size) : (execOp ρ ⟨dst, .slice 9 x (some z) none none, ty, pos, aft, gd⟩).run Try.prog w = .ok (.value (.string (s.extract a s.size))) w := by
  simp only [execOp, hx, Option.map, hz, iN]
  go_simp
theorem info5 : (Try.prog.info? 5).map (fun i => (i.zero, i.size, i.bytes)) = some (some (.int .u8 0), 1, 1) := by kernel_rfl
theorem made_bc (c : Nat) : madeCells #[.int .u8 0] c = bc (List.replicate c 0) := by
  unfold madeCells bc
  apply Array.ext
  · simp
  · intro i h1 h2
    simp [Nat.mod_one, by8, iN]
theorem run_mk {m c : Nat} (hx : ρ x = iN .i64 m) (hy : ρ y = iN k c) (hmc : m ≤ c) (hc : c ≤ 2000000) : (execOp ρ ⟨dst, .makeSlice 52 x y, ty, pos, aft, gd⟩).run Try.prog w = .ok (.value (.slice (some ⟨w.heap.size, 0, none⟩) m c)) (w.alloc (.cells (bc (List.replicate c 0)) 5)) := by
  obtain ⟨i, hi, h⟩ := Option.map_eq_some_iff.1 info5
  simp only [Prod.mk.injEq] at h
  have e := run_makeSlice (P := Try.prog) w 52 5 i (.int .u8 0) Try.underlying52 hi h.1 .i64 k (m : Int) (c : Int) (by omega) (by omega) (by rw [h.2.1]; omega) (by rw [h.2.2]; omega) (by omega)
  rw [h.2.1] at e
  simp only [Int.toNat_natCast, Nat.mul_one] at e
  simp only [execOp, hx, hy, iN, Sem.run_bind, e, Result.andThen_ok, Sem.run_pure]
  rw [show (Value.int IntKind.u8 0).cells = #[Value.int IntKind.u8 0] from rfl, made_bc]
end
/-! HY -/
/-- one block is turned -/
theorem HA.turn {A B : World} {w0 : Base} {L : List (Nat × TypeId × Array Value)} {q : Nat} {t : TypeId} {c c' : Array Value} (h : HA w0 L A) (i : Nat) (hi : L[i]? = some (q, t, c)) (hg : A.grownBy B (some q)) (hb : Blk B q t c') : HA w0 (L.set i (q, t, c')) B := by
  have hlt : i < L.length := (List.getElem?_eq_some_iff.1 hi).1
  have hmap : (L.set i (q, t, c')).map (·.1) = L.map (·.1) := by
    rw [List.map_set]
    refine List.ext_getElem? fun m => ?_
    by_cases hm : i = m
    · subst hm
      rw [List.getElem?_set_self (by simpa using hlt), List.getElem?_map, hi]
      rfl
    · rw [List.getElem?_set_ne hm]
  have hq := h.own _ (List.mem_of_getElem? hi)
  refine ⟨h.old.grown hq (h.get i hi) hg, fun x hx => ?_, fun x hx => ?_, by rw [hmap]; exact h.nd⟩
  · obtain ⟨m, hm⟩ := List.mem_iff_getElem?.1 hx
    by_cases him : i = m
    · subst him
      rw [List.getElem?_set_self hlt] at hm
      obtain rfl := Option.some.inj hm
      exact hb
    · rw [List.getElem?_set_ne him] at hm
      have hx1 := h.get m hm
      unfold Blk
      rw [hg.block x.1 hx1.lt (fun e => him ?_)]
      · exact hx1
      · have h1 : (L.map (·.1))[i]? = some q := by rw [List.getElem?_map, hi]; rfl
        have h2 : (L.map (·.1))[m]? = some q := by rw [List.getElem?_map, hm]; exact e
        exact (List.getElem?_inj (by simpa using hlt) h.nd).1 (h1.trans h2.symm)
  · have : x.1 ∈ L.map (·.1) := by rw [← hmap]; exact List.mem_map.2 ⟨x, hx, rfl⟩
    obtain ⟨y, hy, e⟩ := List.mem_map.1 this
    rw [← e]
    exact h.own y hy
theorem grown_sets {w : World} {q o : Nat} {vs : List Value} : w.grownBy (w.setCells q o vs) (some q) := by
  have key : ∀ (vs : List Value) (o : Nat) (w2 : World), w.grownBy w2 (some q) → w.grownBy (w2.setCells q o vs) (some q) := by
    intro vs
    induction vs with
    | nil => intro o w2 h; exact h
    | cons v r ih =>
      intro o w2 h
      refine ih (o + 1) _ ⟨h.os, h.tape, h.output, by simpa using h.size, fun k hk hne => ?_⟩
      rw [Below.heap_setCell w2 ⟨q, o, none⟩ v k (fun e => hne (by rw [e]))]
      exact h.block k hk hne
  exact key vs o w ⟨rfl, rfl, rfl, Nat.le_refl _, fun _ _ _ => rfl⟩

theorem HA.part {w : World} {w0 : Base} {L : List (Nat × TypeId × Array Value)} {q o : Nat} {t : TypeId} {c : Array Value} {vs : List Value} (h : HA w0 L w) (i : Nat) (hi : L[i]? = some (q, t, c)) (ho : o + vs.length ≤ c.size) :
    HA w0 (L.set i (q, t, (c.toList.take o ++ vs ++ c.toList.drop (o + vs.length)).toArray)) (w.setCells q o vs) := h.turn i hi grown_sets (Blk.sets vs o w c (h.get i hi) ho)
/-- m bytes stand, then come others -/
def laidOn (l : List UInt8) (m : Nat) (r : List UInt8) : List UInt8 := l.take m ++ r ++ l.drop (m + r.length)
theorem laidOn_len (l : List UInt8) (m : Nat) (r : List UInt8) (h : m + r.length ≤ l.length) : (laidOn l m r).length = l.length := by
  unfold laidOn
  rw [List.length_append, List.length_append, List.length_take, List.length_drop]
  omega
theorem laidOn_take (l : List UInt8) (m : Nat) (r : List UInt8) (h : m + r.length ≤ l.length) : (laidOn l m r).take (m + r.length) = l.take m ++ r := by
  unfold laidOn
  have e : (l.take m ++ r).length = m + r.length := by rw [List.length_append, List.length_take]; omega
  rw [← e, List.take_left]
theorem laid_bc (l : List UInt8) (m : Nat) (r : List UInt8) : ((bc l).toList.take m ++ (r.map by8) ++ (bc l).toList.drop (m + (r.map by8).length)).toArray = bc (laidOn l m r) := by
  unfold bc laidOn
  simp [List.map_take, List.map_drop]
section
variable {ρ : Operand → Value} {x y : Operand} {w : World} {dst : Option Tmp} {T T2 ty : TypeId} {pos : String} {aft : Array Edge} {gd : Option (Nat × Bool)}
theorem run_app {q r m c j c2 : Nat} {l n : List UInt8} (hx : ρ x = .slice (some ⟨q, 0, none⟩) m c) (hy : ρ y = .slice (some ⟨r, 0, none⟩) j c2) (hq : Blk w q 5 (bc l)) (hr : Blk w r 5 (bc n)) (hj : n.length = j) (hroom : m + j ≤ c) (hl : l.length = c) :
    (execOp ρ ⟨dst, .call { callee := .builtin .append, args := #[x, y], argTypes := #[52, 52] }, ty, pos, aft, gd⟩).run Try.prog w = .ok (.value (.slice (some ⟨q, 0, none⟩) (m + j) c)) (w.setCells q m (n.map by8)) := by
  obtain ⟨i, hi, h⟩ := Option.map_eq_some_iff.1 info5
  simp only [Prod.mk.injEq] at h
  have hf := run_firstCells_some (P := Try.prog) w 1 j ⟨r, 0, none⟩ j c2 (n.map by8) (by rw [List.length_map, hj, Nat.mul_one]) (fun k v hv => by
    have hadd : (⟨r, 0, none⟩ : Addr).add k = ⟨r, k, none⟩ := by unfold Addr.add; split <;> simp_all
    rw [hadd, hr.cell k]
    simpa [bc] using hv)
  have hst := run_storeCells_cells (P := Try.prog) q m (n.map by8) 0 w (fun k hk => by
    rw [hq.cell]
    rw [List.length_map] at hk
    simp [bc_size]
    omega) (fun k hk => by
    rw [List.length_map] at hk
    exact hq.free _ (by rw [bc_size]; omega)) (fun v hv => by
    obtain ⟨u, _, rfl⟩ := List.mem_map.1 hv
    rfl)
  simp only [Nat.add_zero] at hst
  have e : (Builtin.append_ #[52, 52] ty #[.slice (some ⟨q, 0, none⟩) m c, .slice (some ⟨r, 0, none⟩) j c2]).run Try.prog w = .ok (.slice (some ⟨q, 0, none⟩) (m + j) c) (w.setCells q m (n.map by8)) := by
    simp [Builtin.append_, run_underlying Try.underlying52, sizeOf, typeInfo, hi, h.2.1, Builtin.lenOf, hroom, hf, Addr.add_lit, hst]
  have e0 : (execOp ρ ⟨dst, .call { callee := .builtin .append, args := #[x, y], argTypes := #[52, 52] }, ty, pos, aft, gd⟩).run Try.prog w = ((Builtin.append_ #[52, 52] ty #[ρ x, ρ y]).run Try.prog w).andThen (fun a w' => .ok (.value a) w') := by simp [go_sem]
  rw [e0, hx, hy, e]
  rfl
theorem run_apps {q m c : Nat} {l : List UInt8} {s : ByteArray} (hx : ρ x = .slice (some ⟨q, 0, none⟩) m c) (hy : ρ y = .string s) (hq : Blk w q 5 (bc l)) (hroom : m + s.size ≤ c) (hl : l.length = c) :
    (execOp ρ ⟨dst, .call { callee := .builtin .append, args := #[x, y], argTypes := #[52, 9] }, ty, pos, aft, gd⟩).run Try.prog w = .ok (.value (.slice (some ⟨q, 0, none⟩) (m + s.size) c)) (w.setCells q m ((bl s).map by8)) := by
  obtain ⟨i, hi, h⟩ := Option.map_eq_some_iff.1 info5
  simp only [Prod.mk.injEq] at h
  have hf := Lib.run_firstCells_string (P := Try.prog) w 1 s
  have hst := run_storeCells_cells (P := Try.prog) q m ((bl s).map by8) 0 w (fun k hk => by
    rw [hq.cell]
    rw [List.length_map, bl_len] at hk
    simp [bc_size]
    omega) (fun k hk => by
    rw [List.length_map, bl_len] at hk
    exact hq.free _ (by rw [bc_size]; omega)) (fun v hv => by
    obtain ⟨u, _, rfl⟩ := List.mem_map.1 hv
    rfl)
  simp only [Nat.add_zero] at hst
  have e2 : Lib.strCells s = (bl s).map by8 := rfl
  rw [e2] at hf
  have e : (Builtin.append_ #[52, 9] ty #[.slice (some ⟨q, 0, none⟩) m c, .string s]).run Try.prog w = .ok (.slice (some ⟨q, 0, none⟩) (m + s.size) c) (w.setCells q m ((bl s).map by8)) := by
    simp [Builtin.append_, run_underlying Try.underlying52, run_underlying Try.underlying9, sizeOf, typeInfo, hi, h.2.1, Builtin.lenOf, hroom, hf, Addr.add_lit, hst]
  have e0 : (execOp ρ ⟨dst, .call { callee := .builtin .append, args := #[x, y], argTypes := #[52, 9] }, ty, pos, aft, gd⟩).run Try.prog w = ((Builtin.append_ #[52, 9] ty #[ρ x, ρ y]).run Try.prog w).andThen (fun a w' => .ok (.value a) w') := by simp [go_sem]
  rw [e0, hx, hy, e]
  rfl
theorem run_text {q m c : Nat} {l : List UInt8} (hx : ρ x = .slice (some ⟨q, 0, none⟩) m c) (h : Blk w q 5 (bc l)) (hm : m ≤ l.length) :
    (execOp ρ ⟨dst, .convert 52 9 x, ty, pos, aft, gd⟩).run Try.prog w = .ok (.value (.string ⟨(l.take m).toArray⟩)) w := by
  have e0 : (l.take m).length = m := by rw [List.length_take]; omega
  have e := run_convert_bytes_back (P := Try.prog) w 52 9 5 ⟨q, 0, none⟩ c (l.take m) Try.underlying52 Try.underlying5 Try.underlying9 (fun j hj => by
    have hadd : (⟨q, 0, none⟩ : Addr).add j = ⟨q, j, none⟩ := by unfold Addr.add; split <;> simp_all
    rw [e0] at hj
    rw [hadd, h.cell j, bc_get l j (by omega), List.getElem_take, List.getD_eq_getElem?_getD, List.getElem?_eq_getElem (by omega)]
    rfl)
  rw [e0] at e
  simp only [execOp, hx, Sem.run_bind, e, Result.andThen_ok, Sem.run_pure]
end
/-! HT -/
theorem HA.tl {w : World} {w0 : Base} {L : List (Nat × TypeId × Array Value)} {x : Nat × TypeId × Array Value} (h : HA w0 (x :: L) w) : HA w0 L w :=
  ⟨h.old, fun y hy => h.blk y (List.mem_cons_of_mem _ hy), fun y hy => h.own y (List.mem_cons_of_mem _ hy), by have := h.nd; rw [List.map_cons, List.nodup_cons] at this; exact this.2⟩
section
variable {ρ : Operand → Value} {x y : Operand} {w : World} {dst : Option Tmp} {T T2 ty : TypeId} {pos : String} {aft : Array Edge} {gd : Option (Nat × Bool)} {P : Program} {k : IntKind} {a b : Nat}
theorem run_leq (hx : ρ x = iN k a) (hy : ρ y = iN k b) (t : Bool) (ht : decide (a ≤ b) = t) : (execOp ρ ⟨dst, .binOp .leq T x y T2, ty, pos, aft, gd⟩).run P w = .ok (.value (.bool t)) w := by
  subst ht
  simp only [execOp, hx, hy, iN]
  simp [binOp, go_sem]
theorem run_gtr (hx : ρ x = iN k a) (hy : ρ y = iN k b) (t : Bool) (ht : decide (b < a) = t) : (execOp ρ ⟨dst, .binOp .gtr T x y T2, ty, pos, aft, gd⟩).run P w = .ok (.value (.bool t)) w := by
  subst ht
  simp only [execOp, hx, hy, iN]
  simp [binOp, go_sem]
theorem run_shrn {k2 : IntKind} (ha : a < 18446744073709551616) (hx : ρ x = iN .u64 a) (hy : ρ y = iN k2 b) : (execOp ρ ⟨dst, .binOp .shr T x y T2, ty, pos, aft, gd⟩).run P w = .ok (.value (iN .u64 (a / 2 ^ b))) w := by
  have e : a = (BitVec.ofNat 64 a).toNat := by rw [BitVec.toNat_ofNat, Nat.mod_eq_of_lt ha]
  have h := run_shrv (P := P) (w := w) (dst := dst) (T := T) (T2 := T2) (ty := ty) (pos := pos) (aft := aft) (gd := gd) (a := BitVec.ofNat 64 a) (ρ := ρ) WK.l (by unfold bv; rw [← e]; exact hx) hy
  rw [h]
  unfold bv
  rw [BitVec.toNat_ushiftRight, ← e, Nat.shiftRight_eq_div_pow]
theorem run_lown (hx : ρ x = iN k a) (hT : P.underlying T = some (.int k)) (hT2 : P.underlying T2 = some (.int .u8)) : (execOp ρ ⟨dst, .convert T T2 x, ty, pos, aft, gd⟩).run P w = .ok (.value (by8 (UInt8.ofNat a))) w := by
  have h : IntKind.u8.wrap (a : Int) = ((a % 256 : Nat) : Int) := by simp [IntKind.wrap, IntKind.bits, IntKind.signed]
  simp only [execOp, hx, by8, iN, UInt8.toNat_ofNat']
  simpa [go_sem, hT, hT2] using h
theorem run_build1 {u : UInt8} (hx : ρ x = by8 u) : (execOp ρ ⟨dst, .buildSlice 52 1 #[(0, x)], ty, pos, aft, gd⟩).run Try.prog w = .ok (.value (.slice (some ⟨w.heap.size, 0, none⟩) 1 1)) (w.alloc (.cells (bc [u]) 5)) := by
  simp only [by8, iN] at hx
  simp only [execOp]
  go_simp
  rfl
end
section
variable {ops : Array Oper} {Q : Exit → Act → World → Prop} {a : Act} {w : World} {w0 : Base} {L : List (Nat × TypeId × Array Value)} {rest : List Oper} {dst : Option Tmp} {ty : TypeId} {pos : String} {aft : Array Edge} {gd : Option (Nat × Bool)} {x y : Operand}
theorem HA.app {q m : Nat} {l n l' : List UInt8} (H : HA w0 L w) (i : Nat) (hi : L[i]? = some (q, 5, bc l)) (hroom : m + n.length ≤ l.length) (he : laidOn l m n = l') : HA w0 (L.set i (q, 5, bc l')) (w.setCells q m (n.map by8)) := by
  have := H.part i hi (o := m) (vs := n.map by8) (by rw [List.length_map, bc_size]; exact hroom)
  rw [laid_bc, he] at this
  exact this
theorem wl_app {q r m c j c2 : Nat} {l n l' : List UInt8} (H : HA w0 L w) (i i' : Nat) (hi : L[i]? = some (q, 5, bc l)) (hi' : L[i']? = some (r, 5, bc n))
    (hw : Region.wanted ⟨dst, .call { callee := .builtin .append, args := #[x, y], argTypes := #[52, 52] }, ty, pos, aft, gd⟩ (yielded ops a.tmps) = true)
    (hx : a.eval x = .slice (some ⟨q, 0, none⟩) m c) (hy : a.eval y = .slice (some ⟨r, 0, none⟩) j c2) (hj : n.length = j) (hroom : m + j ≤ c) (hl : l.length = c) (he : laidOn l m n = l')
    (h : ∀ w', HA w0 (L.set i (q, 5, bc l')) w' → WL Try.prog ops Q rest (a.put dst (.slice (some ⟨q, 0, none⟩) (m + j) c)) w') :
    WL Try.prog ops Q (⟨dst, .call { callee := .builtin .append, args := #[x, y], argTypes := #[52, 52] }, ty, pos, aft, gd⟩ :: rest) a w := by
  refine ⟨?_⟩
  unfold wpList
  rw [if_pos hw]
  refine .inl ?_
  unfold Oper.wp
  rw [run_app hx hy (H.get i hi) (H.get i' hi') hj hroom hl]
  exact (h _ (H.app i hi (by omega) he)).out
theorem wl_mks {o : Oper} {n m : Nat} {c : Array Value} (H : HA w0 L w) (t : TypeId) (hw : Region.wanted o (yielded ops a.tmps) = true) (hr : (execOp a.eval o).run Try.prog w = .ok (.value (.slice (some ⟨w.heap.size, 0, none⟩) n m)) (w.alloc (.cells c t)))
    (h : ∀ q w', HA w0 ((q, t, c) :: L) w' → WL Try.prog ops Q rest (a.put o.dst (.slice (some ⟨q, 0, none⟩) n m)) w') : WL Try.prog ops Q (o :: rest) a w := by
  refine ⟨?_⟩
  unfold wpList
  rw [if_pos hw]
  refine .inl ?_
  unfold Oper.wp
  rw [hr]
  exact (h _ _ (H.make t c)).out
end
theorem padb_len (l : List UInt8) (m : Nat) : (l ++ List.replicate m 0).length = l.length + m := by simp
theorem app_pad (l : List UInt8) (m c : Nat) (e : UInt8) (hl : l.length = m) (hm : m < c) : laidOn (l ++ List.replicate (c - m) 0) m [e] = (l ++ [e]) ++ List.replicate (c - (m + 1)) 0 := by
  subst hl
  unfold laidOn
  rw [List.take_left, List.length_cons, List.length_nil, List.drop_append, List.drop_eq_nil_of_le (by omega), List.nil_append, show l.length + (0 + 1) - l.length = 1 by omega, List.drop_replicate]
  rfl
/-! HU -/
theorem bl_extract (t : ByteArray) (a b : Nat) : bl (t.extract a b) = ((bl t).drop a).take (b - a) := by
  unfold bl
  rw [ByteArray.data_extract, Array.toList_extract, List.extract_eq_take_drop]
theorem bl_inj {s t : ByteArray} (h : bl s = bl t) : s = t := by
  cases s; cases t
  congr 1
  exact Array.toList_inj.1 h
theorem extract_size (t : ByteArray) (a : Nat) (h : a ≤ t.size) : (t.extract 0 a).size = a := by
  rw [← bl_len, bl_extract, List.length_take, List.length_drop, bl_len]; omega
theorem extract_size2 (t : ByteArray) (a : Nat) : (t.extract a t.size).size = t.size - a := by
  rw [← bl_len, bl_extract, List.length_take, List.length_drop, bl_len]; omega
theorem bl_split (t : ByteArray) (a : Nat) : bl t = bl (t.extract 0 a) ++ bl (t.extract a t.size) := by
  rw [bl_extract, bl_extract, List.drop_zero, Nat.sub_zero, List.take_of_length_le (i := t.size - a) (by rw [List.length_drop, bl_len]; omega), List.take_append_drop]
section
variable {ρ : Operand → Value} {x y : Operand} {w : World} {dst : Option Tmp} {T T2 ty : TypeId} {pos : String} {aft : Array Edge} {gd : Option (Nat × Bool)}
theorem run_store_sl {q i n m : Nat} {o : Option Addr} (hx : ρ x = .pointer (some ⟨q, i, none⟩)) (hy : ρ y = .slice o n m) (h : (w.cell? ⟨q, i, none⟩).isSome = true) (hf : w.frozen? ⟨q, i, none⟩ = false) :
    (execOp ρ ⟨dst, .store 52 x y, ty, pos, aft, gd⟩).run Try.prog w = .ok .skip (w.setCell ⟨q, i, none⟩ (.slice o n m)) := by
  obtain ⟨u, hu⟩ := Option.isSome_iff_exists.1 h
  simp only [execOp, hx, hy]
  simp [go_sem, hu, Try.sizeOf52, hf]
end
section
variable {ops : Array Oper} {Q : Exit → Act → World → Prop} {a : Act} {w : World} {w0 : Base} {L : List (Nat × TypeId × Array Value)} {rest : List Oper} {dst : Option Tmp} {ty : TypeId} {pos : String} {aft : Array Edge} {gd : Option (Nat × Bool)} {x y : Operand}
theorem HA.putsl {q n m : Nat} {o : Option Addr} {v : Value} (H : HA w0 L w) (i : Nat) (hi : L[i]? = some (q, 52, #[v])) : HA w0 (L.set i (q, 52, #[.slice o n m])) (w.setCell ⟨q, 0, none⟩ (.slice o n m)) := H.put i hi 0 (.slice o n m)
theorem wl_putsl {q n m : Nat} {o : Option Addr} {v : Value} (H : HA w0 L w) (i : Nat) (hi : L[i]? = some (q, 52, #[v])) (hw : Region.wanted ⟨dst, .store 52 x y, ty, pos, aft, gd⟩ (yielded ops a.tmps) = true) (hx : a.eval x = .pointer (some ⟨q, 0, none⟩)) (hy : a.eval y = .slice o n m)
    (h : ∀ w', HA w0 (L.set i (q, 52, #[.slice o n m])) w' → WL Try.prog ops Q rest (a.put dst undef) w') : WL Try.prog ops Q (⟨dst, .store 52 x y, ty, pos, aft, gd⟩ :: rest) a w := by
  refine ⟨?_⟩
  unfold wpList
  rw [if_pos hw]
  refine .inl ?_
  unfold Oper.wp
  rw [run_store_sl hx hy (by rw [(H.get i hi).cell 0]; rfl) ((H.get i hi).free 0 (Nat.zero_lt_one))]
  exact (h _ (H.putsl i hi)).out
end
/-! MA -/
section
variable {ρ : Operand → Value} {x y z u : Operand} {w : World} {dst : Option Tmp} {T T2 ty : TypeId} {pos : String} {aft : Array Edge} {gd : Option (Nat × Bool)} {q : Nat}
theorem run_textg {m c : Nat} {t : TypeId} {l : List UInt8} (hx : ρ x = .slice (some ⟨q, 0, none⟩) m c) (h : Blk w q t (bc l)) (hm : m ≤ l.length) :
    (execOp ρ ⟨dst, .convert 52 9 x, ty, pos, aft, gd⟩).run Try.prog w = .ok (.value (.string ⟨(l.take m).toArray⟩)) w := by
  have e0 : (l.take m).length = m := by rw [List.length_take]; omega
  have e := run_convert_bytes_back (P := Try.prog) w 52 9 5 ⟨q, 0, none⟩ c (l.take m) Try.underlying52 Try.underlying5 Try.underlying9 (fun j hj => by
    have hadd : (⟨q, 0, none⟩ : Addr).add j = ⟨q, j, none⟩ := by unfold Addr.add; split <;> simp_all
    rw [e0] at hj
    rw [hadd, h.cell j, bc_get l j (by omega), List.getElem_take, List.getD_eq_getElem?_getD, List.getElem?_eq_getElem (by omega)]
    rfl)
  rw [e0] at e
  simp only [execOp, hx, Sem.run_bind, e, Result.andThen_ok, Sem.run_pure]
end
section
variable {ops : Array Oper} {Q : Exit → Act → World → Prop} {a : Act} {w : World} {w0 : Base} {L : List (Nat × TypeId × Array Value)} {rest : List Oper} {dst : Option Tmp} {ty : TypeId} {pos : String} {aft : Array Edge} {gd : Option (Nat × Bool)} {x y : Operand}
/-- a call whose answer is told by what holds of it -/
theorem wl_callq {f : FuncId} {xs : Array Operand} {ats : Array TypeId} {R : Value → World → Prop} (H : HA w0 L w) (hw : Region.wanted ⟨dst, .call { callee := .value (.func f), args := xs, argTypes := ats }, ty, pos, aft, gd⟩ (yielded ops a.tmps) = true)
    (hr : ∀ args w, (callFunc f args).run Try.prog w = .ok (.enter f args) w) (args : Array Value) (ha : #[] ++ xs.map a.eval ++ #[] = args) (hc : Calls Try.prog f args w fun e w' => ∃ v, e = .returned v ∧ R v w' ∧ Below w.heap.size w w')
    (h : ∀ v w', R v w' → HA w0 L w' → WL Try.prog ops Q rest (a.put dst v) w') : WL Try.prog ops Q (⟨dst, .call { callee := .value (.func f), args := xs, argTypes := ats }, ty, pos, aft, gd⟩ :: rest) a w := by
  refine ⟨?_⟩
  unfold wpList
  rw [if_pos hw]
  refine .inl ?_
  unfold Oper.wp
  rw [execOp_call_go, ha, hr]
  refine hc.mono ?_
  rintro e w' ⟨v, rfl, hv, hb⟩
  exact (h v w' hv (H.keep _ _ hb)).out
end
/-! AO -/
section
variable {ρ : Operand → Value} {x y z u : Operand} {w : World} {dst : Option Tmp} {T T2 ty : TypeId} {pos : String} {aft : Array Edge} {gd : Option (Nat × Bool)} {q : Nat} {k : IntKind} {c : Array Value}
theorem run_andb {a b : UInt8} (hx : ρ x = by8 a) (hy : ρ y = by8 b) : (execOp ρ ⟨dst, .binOp .and T x y T2, ty, pos, aft, gd⟩).run Try.prog w = .ok (.value (by8 (a &&& b))) w := by
  have h := run_and8 (P := Try.prog) (w := w) (dst := dst) (T := T) (T2 := T2) (ty := ty) (pos := pos) (aft := aft) (gd := gd) hx hy a.toNat_lt b.toNat_lt
  unfold by8; rw [UInt8.toNat_and]; exact h
theorem run_shrb {k2 : IntKind} {a : UInt8} {m : Nat} (hx : ρ x = by8 a) (hy : ρ y = iN k2 m) (hm : m ≤ 8) : (execOp ρ ⟨dst, .binOp .shr T x y T2, ty, pos, aft, gd⟩).run Try.prog w = .ok (.value (by8 (UInt8.ofNat (a.toNat / 2 ^ m)))) w := by
  have h := run_shr (P := Try.prog) (w := w) (dst := dst) (T := T) (T2 := T2) (ty := ty) (pos := pos) (aft := aft) (gd := gd) (k := .u8) (k2 := k2) hx hy hm
  unfold by8; rw [UInt8.toNat_ofNat', Nat.mod_eq_of_lt (Nat.lt_of_le_of_lt (Nat.div_le_self _ _) a.toNat_lt)]; exact h
theorem run_shlb {k2 : IntKind} {a : UInt8} {m : Nat} (hx : ρ x = by8 a) (hy : ρ y = iN k2 m) (hm : m ≤ 8) : (execOp ρ ⟨dst, .binOp .shl T x y T2, ty, pos, aft, gd⟩).run Try.prog w = .ok (.value (by8 (UInt8.ofNat (a.toNat * 2 ^ m)))) w := by
  have h8 : ∀ n : Nat, IntKind.u8.wrap (n : Int) = ((n % 256 : Nat) : Int) := fun n => by simp [IntKind.wrap, IntKind.bits, IntKind.signed]
  simp only [execOp, hx, hy, by8, iN, UInt8.toNat_ofNat']
  have h := h8 (a.toNat * 2 ^ m)
  have e : m ≤ IntKind.u8.bits := hm
  simpa [binOp, go_sem, e] using h
theorem run_idx {s : ByteArray} {a : Nat} (hx : ρ x = .string s) (hy : ρ y = iN k a) (ha : a < s.size) : (execOp ρ ⟨dst, .index 9 x y, ty, pos, aft, gd⟩).run Try.prog w = .ok (.value (by8 ((bl s).getD a 0))) w := by
  have e : s[a]? = some ((bl s).getD a 0) := by
    rw [List.getD_eq_getElem?_getD, List.getElem?_eq_getElem (by rw [bl_len]; exact ha)]
    exact getElem?_pos s a ha
  simp only [execOp, hx, hy, iN]
  simp [go_sem, Instr.index, run_underlying Try.underlying9, asIntOf, e]
  rfl
theorem run_cut2 {s : ByteArray} {a b : Nat} (hx : ρ x = .string s) (hz : ρ z = iN .i64 a) (hy : ρ y = iN .i64 b) (ha : a ≤ b) (hb : b ≤ s.size) : (execOp ρ ⟨dst, .slice 9 x (some z) (some y) none, ty, pos, aft, gd⟩).run Try.prog w = .ok (.value (.string (s.extract a b))) w := by
  simp only [execOp, hx, Option.map, hy, hz, iN]
  go_simp
theorem run_nil (hx : ρ x = .pointer (some ⟨q, 0, none⟩)) : (execOp ρ ⟨dst, .nilCheck x, ty, pos, aft, gd⟩).run Try.prog w = .ok (.value (.pointer (some ⟨q, 0, none⟩))) w := by
  simp only [execOp, hx]
  go_simp
theorem run_addr_k {P : Program} {n o m a : Nat} {e : TypeId} (hT : P.underlying T = some (.array n e)) (hs : ∀ w, (sizeOf e).run P w = .ok m w) (hx : ρ x = .pointer (some ⟨q, o, none⟩)) (hy : ρ y = iN k a) (ha : a < n) : (execOp ρ ⟨dst, .indexAddr T x y, ty, pos, aft, gd⟩).run P w = .ok (.value (.pointer (some ⟨q, o + a * m, none⟩))) w := by
  simp only [execOp, hx, hy, iN]
  simp [go_sem, hT, hs, ha]
theorem run_part {o : Nat} {t : TypeId} {c' : Array Value} {D : TypeDesc} (hx : ρ x = .pointer (some ⟨q, o, none⟩)) (h : Blk w q t c) (hc : ∀ j v, c'[j]? = some v → c[o + j]? = some v) (hu : Try.prog.underlying T = some D) (hd : D.isRow = true) (hi : (Try.prog.info? T).map (·.size) = some c'.size) :
    (execOp ρ ⟨dst, .load T x, ty, pos, aft, gd⟩).run Try.prog w = .ok (.value (.agg c')) w := by
  have hr : w.rangeAt q o c'.toList := fun j v hv => by
    rw [h.cell (o + j)]
    exact hc j v (by rw [← Array.getElem?_toList]; exact hv)
  simp only [execOp, hx, Instr.loadAt, Instr.sureAddr, Sem.run_bind, Sem.run_pure, Result.andThen_ok, run_loadVar_mid w q o T c'.toList D hr hu hd (by rw [Array.length_toList]; exact hi)]
end
section
variable {ρ : Operand → Value} {x y z u : Operand} {w : World} {dst : Option Tmp} {T T2 ty : TypeId} {pos : String} {aft : Array Edge} {gd : Option (Nat × Bool)} {q : Nat} {k : IntKind} {c : Array Value}
end
section
variable {ops : Array Oper} {Q : Exit → Act → World → Prop} {a : Act} {w : World} {w0 : Base} {L : List (Nat × TypeId × Array Value)} {rest : List Oper} {dst : Option Tmp} {ty ty' : TypeId} {pos : String} {aft : Array Edge} {gd : Option (Nat × Bool)} {x y : Operand} {s : ByteArray}
/-- a call that answers a new block's address -/
theorem wl_callnew {f : FuncId} {xs : Array Operand} {ats : Array TypeId} {t : TypeId} {c : Array Value} (H : HA w0 L w) (hw : Region.wanted ⟨dst, .call { callee := .value (.func f), args := xs, argTypes := ats }, ty, pos, aft, gd⟩ (yielded ops a.tmps) = true)
    (hr : ∀ args w, (callFunc f args).run Try.prog w = .ok (.enter f args) w) (args : Array Value) (ha : #[] ++ xs.map a.eval ++ #[] = args) (hc : Calls Try.prog f args w fun e w' => ∃ q, e = .returned (.pointer (some ⟨q, 0, none⟩)) ∧ w.heap.size ≤ q ∧ Blk w' q t c ∧ Below w.heap.size w w')
    (h : ∀ q w', HA w0 ((q, t, c) :: L) w' → WL Try.prog ops Q rest (a.put dst (.pointer (some ⟨q, 0, none⟩))) w') : WL Try.prog ops Q (⟨dst, .call { callee := .value (.func f), args := xs, argTypes := ats }, ty, pos, aft, gd⟩ :: rest) a w := by
  refine ⟨?_⟩
  unfold wpList
  rw [if_pos hw]
  refine .inl ?_
  unfold Oper.wp
  rw [execOp_call_go, ha, hr]
  refine hc.mono ?_
  rintro e w' ⟨q, rfl, hq, hB, hb⟩
  have h1 := H.keep _ _ hb
  refine (h q w' ⟨h1.old, fun x hx => ?_, fun x hx => ?_, ?_⟩).out
  · rcases List.mem_cons.1 hx with rfl | hx
    · exact hB
    · exact h1.blk x hx
  · rcases List.mem_cons.1 hx with rfl | hx
    · exact Nat.le_trans H.size hq
    · exact h1.own x hx
  · rw [List.map_cons, List.nodup_cons]
    refine ⟨fun hm => ?_, h1.nd⟩
    obtain ⟨x, hx, e⟩ := List.mem_map.1 hm
    have := (H.blk x hx).lt
    simp at e
    omega
/-- a text's bytes as a slice of one's own -/
theorem HA.bytes (h : HA w0 L w) (s : ByteArray) : ∃ m, HA w0 ((w.heap.size, 5, bc (bl s ++ List.replicate m 0)) :: L) (Lib.bytesWorld w 5 s) := by
  have hb : Below w.heap.size w (Lib.bytesWorld w 5 s) := ⟨rfl, rfl, rfl, by rw [Lib.bytesWorld_size]; omega, fun k hk => Lib.bytesWorld_at_old w 5 s k hk⟩
  have h1 := h.keep _ _ hb
  refine ⟨grownCap w s.size 0 5 - s.size, h1.old, fun x hx => ?_, fun x hx => ?_, ?_⟩
  · rcases List.mem_cons.1 hx with rfl | hx
    · have e : Lib.bytesCells w 5 s = bc (bl s ++ List.replicate (grownCap w s.size 0 5 - s.size) 0) := by
        unfold Lib.bytesCells bc bl by8 iN
        apply Array.toList_inj.1
        simp
      have hn := Lib.bytesWorld_at_new w 5 s
      rw [e] at hn
      exact ⟨_, hn, .inr ⟨rfl, Nat.le_refl _⟩⟩
    · exact h1.blk x hx
  · rcases List.mem_cons.1 hx with rfl | hx
    · exact h.size
    · exact h1.own x hx
  · rw [List.map_cons, List.nodup_cons]
    refine ⟨fun hm => ?_, h1.nd⟩
    obtain ⟨x, hx, e⟩ := List.mem_map.1 hm
    have := (h.blk x hx).lt
    simp at e
    omega
theorem wl_bytes (H : HA w0 L w) (hw : Region.wanted ⟨dst, .convert 9 52 x, ty, pos, aft, gd⟩ (yielded ops a.tmps) = true) (hx : a.eval x = .string s)
    (h : ∀ q cp m w', HA w0 ((q, 5, bc (bl s ++ List.replicate m 0)) :: L) w' → WL Try.prog ops Q rest (a.put dst (.slice (some ⟨q, 0, none⟩) s.size cp)) w') : WL Try.prog ops Q (⟨dst, .convert 9 52 x, ty, pos, aft, gd⟩ :: rest) a w := by
  obtain ⟨m, hm⟩ := H.bytes s
  refine ⟨?_⟩
  unfold wpList
  rw [if_pos hw]
  refine .inl ?_
  unfold Oper.wp
  have e : (execOp a.eval ⟨dst, .convert 9 52 x, ty, pos, aft, gd⟩).run Try.prog w = .ok (.value (.slice (some ⟨w.heap.size, 0, none⟩) s.size (grownCap w s.size 0 5))) (Lib.bytesWorld w 5 s) := by
    simp only [execOp, hx, Sem.run_bind, Lib.run_convert_string_bytes w 9 52 5 s Try.underlying9 Try.underlying52 Try.underlying5, Result.andThen_ok, Sem.run_pure]
  rw [e]
  exact (h _ _ _ _ hm).out
end
/-! changes of a whole block, or of a part of it, in a drawn region -/
section
variable {ops : Array Oper} {Q : Exit → Act → World → Prop} {F : (Nat → Nat) → Act} {i i0 j q : Nat} {dst : Option Tmp} {T ty : TypeId} {pos : String} {aft : Array Edge} {gd : Option (Nat × Bool)}
  {w0 : Base} {L : List (Nat × TypeId × Array Value)} {t : TypeId} {c : Array Value} {pre : Nat → List Nat}
theorem gq_part {x y : Operand} {c0 c1 : Array Value} {off : Nat} (hL : L[j]? = some (q, t, c0)) (hoff : off + c1.size ≤ c0.size) (hc : (c0.toList.take off ++ c1.toList ++ c0.toList.drop (off + c1.size)).toArray = c) (hz : (Try.prog.info? T).map (·.size) = some c1.size) (h1 : c1.all (·.oneCell') = true) (he : ahead aft (pre i0) = true)
    (hw : ∀ g, Region.wanted ⟨dst, .store T x y, ty, pos, aft, gd⟩ (yielded ops (F g).tmps) = true) (hp : ∀ g, (F g).put dst undef = F g) (hx : ∀ g, (F g).eval x = .pointer (some ⟨q, off, none⟩)) (hy : ∀ g, (F g).eval y = .agg c1) :
    OpGhost Try.prog .any ops Q (GQ w0 L pre i0 j q t c) F i0 ⟨dst, .store T x y, ty, pos, aft, gd⟩ :=
  OpGhost.skips (W := fun _ w => w.setCells q off c1.toList) hw hp (fun g d w h hd ha => by
    have hH := h.held
    rw [if_neg (by rw [hd]; decide)] at hH
    have hb : Blk w q t c0 := hH.get j hL
    have hth : w.there q off c1.size := fun j hj => ⟨by rw [hb.cell (off + j)]; simp; omega, hb.free (off + j) (by omega)⟩
    have e : (execOp (F g).eval ⟨dst, .store T x y, ty, pos, aft, gd⟩).run Try.prog w = .ok .skip (w.setCells q off c1.toList) := by
      simp only [execOp, hx, hy, Instr.storeAt, Instr.sureAddr, Sem.run_bind, Sem.run_pure, Result.andThen_ok, run_storeVar_mid w q off T c1 hth hz h1]
    refine ⟨e, ?_, h.seen.up (ahead_ok he ha)⟩
    rw [up_at, if_pos rfl]
    have := hH.part j hL (o := off) (vs := c1.toList) (by rw [Array.length_toList]; exact hoff)
    rw [Array.length_toList, hc] at this
    exact this)
theorem gq_fill {x y : Operand} {c0 : Array Value} (hL : L[j]? = some (q, t, c0)) (hs : c.size = c0.size) (hz : (Try.prog.info? T).map (·.size) = some c.size) (h1 : c.all (·.oneCell') = true) (he : ahead aft (pre i0) = true)
    (hw : ∀ g, Region.wanted ⟨dst, .store T x y, ty, pos, aft, gd⟩ (yielded ops (F g).tmps) = true) (hp : ∀ g, (F g).put dst undef = F g) (hx : ∀ g, (F g).eval x = .pointer (some ⟨q, 0, none⟩)) (hy : ∀ g, (F g).eval y = .agg c) :
    OpGhost Try.prog .any ops Q (GQ w0 L pre i0 j q t c) F i0 ⟨dst, .store T x y, ty, pos, aft, gd⟩ :=
  OpGhost.skips (W := fun _ w => w.setCells q 0 c.toList) hw hp (fun g d w h hd ha => by
    have hH := h.held
    rw [if_neg (by rw [hd]; decide)] at hH
    refine ⟨run_store_blk (hx g) (hy g) (hH.get j hL) hs hz h1, ?_, h.seen.up (ahead_ok he ha)⟩
    rw [up_at, if_pos rfl]
    exact hH.fill j hL hs)
/-- a call of a value -/
theorem gq_callv {f : FuncId} {x : Operand} {xs : Array Operand} {ats : Array TypeId} {v : Value} (hi : i ≠ i0) (he : ahead aft (pre i) = true)
    (hw : ∀ g, Region.wanted ⟨dst, .call { callee := .value x, args := xs, argTypes := ats }, ty, pos, aft, gd⟩ (yielded ops (F g).tmps) = true) (hp : ∀ g, (F g).put dst v = F g)
    (hr : ∀ args w, (callFunc f args).run Try.prog w = .ok (.enter f args) w) (hx : ∀ g, (F g).eval x = .func (.func f) #[] #[]) (args : Array Value) (ha : ∀ g, #[] ++ xs.map (F g).eval ++ #[] = args)
    (hc : ∀ w, Old w0 w → Calls Try.prog f args w fun e w' => e = .returned v ∧ Below w.heap.size w w') :
    OpGhost Try.prog .any ops Q (GQ w0 L pre i0 j q t c) F i ⟨dst, .call { callee := .value x, args := xs, argTypes := ats }, ty, pos, aft, gd⟩ :=
  OpGhost.call (v := fun _ => v) (args := fun _ => args) hw hp (fun g _ => run_callv hr (hx g) (ha g)) (fun _ _ w hS h' => (hc w hS.held.old).mono fun _ _ h => ⟨h.1, hS.keep hi (ahead_ok he h') h.2⟩)
end
/-! rows that are filled from the front -/
theorem padb_put (l : List UInt8) (m m' i : Nat) (x : UInt8) (h : l.length = i) (hm : m = m' + 1) : (bc (l ++ List.replicate m 0)).setIfInBounds i (.int .u8 (x.toNat : Int)) = bc ((l ++ [x]) ++ List.replicate m' 0) := by
  subst hm h
  unfold bc
  rw [List.setIfInBounds_toArray]
  congr 1
  rw [List.map_append, List.set_append_right _ _ (by simp), List.length_map, Nat.sub_self, List.replicate_succ, List.map_cons, List.set_cons_zero, List.map_append, List.map_append, List.append_assoc]
  rfl
theorem bc_put (l : List UInt8) (i : Nat) (x : UInt8) : (bc l).setIfInBounds i (.int .u8 (x.toNat : Int)) = bc (l.set i x) := by
  unfold bc
  rw [List.setIfInBounds_toArray, List.map_set]
  rfl
theorem padb_get (l : List UInt8) (m i : Nat) (h : i < l.length) : (bc (l ++ List.replicate m 0))[i]? = some (by8 (l.getD i 0)) := by
  rw [bc_get _ _ (by rw [List.length_append]; omega), List.getD_eq_getElem?_getD, List.getElem?_append_left h, List.getD_eq_getElem?_getD]
/-! A9 -/
section
variable {ρ : Operand → Value} {x y : Operand} {w : World} {dst : Option Tmp} {T T2 ty : TypeId} {pos : String} {aft : Array Edge} {gd : Option (Nat × Bool)} {k : IntKind} {a b : Nat} {P : Program}
theorem run_geq (hx : ρ x = iN k a) (hy : ρ y = iN k b) (t : Bool) (ht : decide (b ≤ a) = t) : (execOp ρ ⟨dst, .binOp .geq T x y T2, ty, pos, aft, gd⟩).run P w = .ok (.value (.bool t)) w := by
  subst ht
  simp only [execOp, hx, hy, iN]
  simp [binOp, go_sem]
end
/-! Aa -/
section
variable {ops : Array Oper} {Q : Exit → Act → World → Prop} {a : Act} {w : World} {w0 : Base} {L : List (Nat × TypeId × Array Value)} {rest : List Oper} {dst : Option Tmp} {ty : TypeId} {pos : String} {aft : Array Edge} {gd : Option (Nat × Bool)} {x y : Operand}
theorem wl_apps {q m c : Nat} {l l' : List UInt8} {s : ByteArray} (H : HA w0 L w) (i : Nat) (hi : L[i]? = some (q, 5, bc l))
    (hw : Region.wanted ⟨dst, .call { callee := .builtin .append, args := #[x, y], argTypes := #[52, 9] }, ty, pos, aft, gd⟩ (yielded ops a.tmps) = true)
    (hx : a.eval x = .slice (some ⟨q, 0, none⟩) m c) (hy : a.eval y = .string s) (hroom : m + s.size ≤ c) (hl : l.length = c) (he : laidOn l m (bl s) = l')
    (h : ∀ w', HA w0 (L.set i (q, 5, bc l')) w' → WL Try.prog ops Q rest (a.put dst (.slice (some ⟨q, 0, none⟩) (m + s.size) c)) w') :
    WL Try.prog ops Q (⟨dst, .call { callee := .builtin .append, args := #[x, y], argTypes := #[52, 9] }, ty, pos, aft, gd⟩ :: rest) a w := by
  refine ⟨?_⟩
  unfold wpList
  rw [if_pos hw]
  refine .inl ?_
  unfold Oper.wp
  rw [run_apps hx hy (H.get i hi) hroom hl]
  have hp := H.part i hi (o := m) (vs := (bl s).map by8) (by rw [List.length_map, bc_size, bl_len]; show m + s.size ≤ l.length; omega)
  rw [laid_bc, he] at hp
  exact (h _ hp).out
end
theorem laid_first (n : List UInt8) (m : Nat) : laidOn (List.replicate (n.length + m) 0) 0 n = n ++ List.replicate m 0 := by
  unfold laidOn
  rw [List.take_zero, List.nil_append, Nat.zero_add, List.drop_replicate]
  congr 2
  omega
theorem takepad {l r : List UInt8} {m : Nat} (h : l.length = m) : (l ++ r).take m = l := by subst h; exact List.take_left
theorem take_all2 {l : List UInt8} {n : Nat} (h : l.length = n) : l.take n = l := List.take_of_length_le (by omega)
def p4 (s : ByteArray) (n : Nat) : List UInt8 := (((bl s ++ [UInt8.ofNat (n / 2 ^ 24)]) ++ [UInt8.ofNat (n / 2 ^ 16)]) ++ [UInt8.ofNat (n / 2 ^ 8)]) ++ [UInt8.ofNat (n / 2 ^ 0)]
def putS (s : ByteArray) (n : Nat) : ByteArray := ⟨(p4 s n).toArray⟩
theorem p4_len (s : ByteArray) (n : Nat) : (p4 s n).length = s.size + 4 := by unfold p4; simp only [List.length_append, List.length_singleton, bl_len]
theorem pl1 (s : ByteArray) (n : Nat) : ((bl s) ++ [UInt8.ofNat (n / 2 ^ 24)]).length = s.size + 1 := by rw [List.length_append, bl_len]; rfl
theorem pl2 (s : ByteArray) (n : Nat) : (((bl s) ++ [UInt8.ofNat (n / 2 ^ 24)]) ++ [UInt8.ofNat (n / 2 ^ 16)]).length = s.size + 2 := by rw [List.length_append, pl1]; rfl
theorem pl3 (s : ByteArray) (n : Nat) : ((((bl s) ++ [UInt8.ofNat (n / 2 ^ 24)]) ++ [UInt8.ofNat (n / 2 ^ 16)]) ++ [UInt8.ofNat (n / 2 ^ 8)]).length = s.size + 3 := by rw [List.length_append, pl2]; rfl
theorem pl4 (s : ByteArray) (n : Nat) : (((((bl s) ++ [UInt8.ofNat (n / 2 ^ 24)]) ++ [UInt8.ofNat (n / 2 ^ 16)]) ++ [UInt8.ofNat (n / 2 ^ 8)]) ++ [UInt8.ofNat (n / 2 ^ 0)]).length = s.size + 4 := by rw [List.length_append, pl3]; rfl
theorem pb_len {l : List UInt8} {m c : Nat} (h : l.length = m) (hm : m ≤ c) : (l ++ List.replicate (c - m) 0).length = c := by rw [padb_len, h]; omega

end Go.Proofs.Ytjedhnjjgmbcbaa
