/-
  Elements as variables; calls as sure operations.
-/
import Derived.Test.YtdblnbcclfenkaaDoorMem
import Derived.Test.YtdblnbcclfenkaaDoorBlk
namespace Go.Proofs.YtdblnbcclfenkaaDoor
open Go.RowKit Num

/-- the cells of an element -/
def el (n : Nat) : Array Value := cl .u64 (digs K 4 n)
theorem el_size (n : Nat) : (el n).size = 4 := rfl
theorem info34 : (Tryd.prog.info? 34).map (·.size) = some 4 := by kernel_rfl
theorem one_cl (k : IntKind) (l : List Nat) : (cl k l).all (·.oneCell') = true := all_oneCell_toArray fun v hv => by
  obtain ⟨n, _, rfl⟩ := List.mem_map.1 hv
  rfl
theorem one_el (n : Nat) : (el n).all (·.oneCell') = true := one_cl _ _
theorem run_alloc34 {ρ : Operand → Value} {w : World} {dst : Option Tmp} {ty : TypeId} {pos : String} {aft : Array Edge} {gd : Option (Nat × Bool)} :
    (execOp ρ ⟨dst, .alloc 34, ty, pos, aft, gd⟩).run Tryd.prog w = .ok (.value (.pointer (some ⟨w.heap.size, 0, none⟩))) (w.alloc (.cells (el 0) 34)) := by
  simp only [execOp]
  go_simp
  rfl

/-- a call that keeps old memory, as a sure operation -/
theorem sure_call {ops : Array Oper} {Q : Exit → Act → World → Prop} {S : World → Prop} {F : Act} {dst : Option Tmp} {f : FuncId} {xs : Array Operand} {ats : Array TypeId} {ty : TypeId} {pos : String} {aft : Array Edge} {gd : Option (Nat × Bool)} {v : Value}
    (hw : Region.wanted ⟨dst, .call { callee := .value (.func f), args := xs, argTypes := ats }, ty, pos, aft, gd⟩ (yielded ops F.tmps) = true) (hp : F.put dst v = F)
    (hr : ∀ args w, (callFunc f args).run Tryd.prog w = .ok (.enter f args) w) (hk : ∀ w w', S w → Below w.heap.size w w' → S w') (args : Array Value) (ha : #[] ++ xs.map F.eval ++ #[] = args)
    (hc : ∀ w, S w → Calls Tryd.prog f args w fun e w' => e = .returned v ∧ Below w.heap.size w w') :
    OpSure Tryd.prog ops Q S F ⟨dst, .call { callee := .value (.func f), args := xs, argTypes := ats }, ty, pos, aft, gd⟩ := by
  subst ha
  exact OpSure.call hw hp (fun w _ => by rw [execOp_call_go]; exact hr _ w) (fun w hS => (hc w hS).mono fun e w' h => ⟨h.1, hk w w' hS h.2⟩)
theorem enter3 (args : Array Value) (w : World) : (callFunc 3 args).run Tryd.prog w = .ok (.enter 3 args) w := by go_simp
theorem enter4 (args : Array Value) (w : World) : (callFunc 4 args).run Tryd.prog w = .ok (.enter 4 args) w := by go_simp
theorem enter5 (args : Array Value) (w : World) : (callFunc 5 args).run Tryd.prog w = .ok (.enter 5 args) w := by go_simp
theorem enter6 (args : Array Value) (w : World) : (callFunc 6 args).run Tryd.prog w = .ok (.enter 6 args) w := by go_simp
theorem enter7 (args : Array Value) (w : World) : (callFunc 7 args).run Tryd.prog w = .ok (.enter 7 args) w := by go_simp
theorem enter8 (args : Array Value) (w : World) : (callFunc 8 args).run Tryd.prog w = .ok (.enter 8 args) w := by go_simp
theorem enter9 (args : Array Value) (w : World) : (callFunc 9 args).run Tryd.prog w = .ok (.enter 9 args) w := by go_simp
theorem enter10 (args : Array Value) (w : World) : (callFunc 10 args).run Tryd.prog w = .ok (.enter 10 args) w := by go_simp
theorem enter11 (args : Array Value) (w : World) : (callFunc 11 args).run Tryd.prog w = .ok (.enter 11 args) w := by go_simp
theorem enter12 (args : Array Value) (w : World) : (callFunc 12 args).run Tryd.prog w = .ok (.enter 12 args) w := by go_simp
theorem enter13 (args : Array Value) (w : World) : (callFunc 13 args).run Tryd.prog w = .ok (.enter 13 args) w := by go_simp
theorem enter14 (args : Array Value) (w : World) : (callFunc 14 args).run Tryd.prog w = .ok (.enter 14 args) w := by go_simp
theorem enter15 (args : Array Value) (w : World) : (callFunc 15 args).run Tryd.prog w = .ok (.enter 15 args) w := by go_simp
theorem enter16 (args : Array Value) (w : World) : (callFunc 16 args).run Tryd.prog w = .ok (.enter 16 args) w := by go_simp
theorem enter17 (args : Array Value) (w : World) : (callFunc 17 args).run Tryd.prog w = .ok (.enter 17 args) w := by go_simp
theorem enter18 (args : Array Value) (w : World) : (callFunc 18 args).run Tryd.prog w = .ok (.enter 18 args) w := by go_simp
theorem enter19 (args : Array Value) (w : World) : (callFunc 19 args).run Tryd.prog w = .ok (.enter 19 args) w := by go_simp
theorem enter20 (args : Array Value) (w : World) : (callFunc 20 args).run Tryd.prog w = .ok (.enter 20 args) w := by go_simp
theorem enter21 (args : Array Value) (w : World) : (callFunc 21 args).run Tryd.prog w = .ok (.enter 21 args) w := by go_simp
theorem enter22 (args : Array Value) (w : World) : (callFunc 22 args).run Tryd.prog w = .ok (.enter 22 args) w := by go_simp
theorem enter23 (args : Array Value) (w : World) : (callFunc 23 args).run Tryd.prog w = .ok (.enter 23 args) w := by go_simp
theorem enter24 (args : Array Value) (w : World) : (callFunc 24 args).run Tryd.prog w = .ok (.enter 24 args) w := by go_simp
theorem enter25 (args : Array Value) (w : World) : (callFunc 25 args).run Tryd.prog w = .ok (.enter 25 args) w := by go_simp
theorem enter26 (args : Array Value) (w : World) : (callFunc 26 args).run Tryd.prog w = .ok (.enter 26 args) w := by go_simp
theorem enter27 (args : Array Value) (w : World) : (callFunc 27 args).run Tryd.prog w = .ok (.enter 27 args) w := by go_simp
theorem enter28 (args : Array Value) (w : World) : (callFunc 28 args).run Tryd.prog w = .ok (.enter 28 args) w := by go_simp
theorem enter29 (args : Array Value) (w : World) : (callFunc 29 args).run Tryd.prog w = .ok (.enter 29 args) w := by go_simp
theorem enter30 (args : Array Value) (w : World) : (callFunc 30 args).run Tryd.prog w = .ok (.enter 30 args) w := by go_simp
theorem enter31 (args : Array Value) (w : World) : (callFunc 31 args).run Tryd.prog w = .ok (.enter 31 args) w := by go_simp
theorem enter32 (args : Array Value) (w : World) : (callFunc 32 args).run Tryd.prog w = .ok (.enter 32 args) w := by go_simp
theorem enter33 (args : Array Value) (w : World) : (callFunc 33 args).run Tryd.prog w = .ok (.enter 33 args) w := by go_simp
theorem enter34 (args : Array Value) (w : World) : (callFunc 34 args).run Tryd.prog w = .ok (.enter 34 args) w := by go_simp
theorem enter35 (args : Array Value) (w : World) : (callFunc 35 args).run Tryd.prog w = .ok (.enter 35 args) w := by go_simp
theorem enter37 (args : Array Value) (w : World) : (callFunc 37 args).run Tryd.prog w = .ok (.enter 37 args) w := by go_simp
theorem enter38 (args : Array Value) (w : World) : (callFunc 38 args).run Tryd.prog w = .ok (.enter 38 args) w := by go_simp
theorem enter39 (args : Array Value) (w : World) : (callFunc 39 args).run Tryd.prog w = .ok (.enter 39 args) w := by go_simp
theorem enter40 (args : Array Value) (w : World) : (callFunc 40 args).run Tryd.prog w = .ok (.enter 40 args) w := by go_simp
theorem enter41 (args : Array Value) (w : World) : (callFunc 41 args).run Tryd.prog w = .ok (.enter 41 args) w := by go_simp
theorem enter42 (args : Array Value) (w : World) : (callFunc 42 args).run Tryd.prog w = .ok (.enter 42 args) w := by go_simp
theorem enter43 (args : Array Value) (w : World) : (callFunc 43 args).run Tryd.prog w = .ok (.enter 43 args) w := by go_simp
theorem enter44 (args : Array Value) (w : World) : (callFunc 44 args).run Tryd.prog w = .ok (.enter 44 args) w := by go_simp
theorem sure_load {ops : Array Oper} {Q : Exit → Act → World → Prop} {S : World → Prop} {F : Act} {dst : Option Tmp} {x : Operand} {ty : TypeId} {pos : String} {aft : Array Edge} {gd : Option (Nat × Bool)} {q n : Nat}
    (hw : Region.wanted ⟨dst, .load 34 x, ty, pos, aft, gd⟩ (yielded ops F.tmps) = true) (hp : F.put dst (arr n) = F) (hx : F.eval x = .pointer (some ⟨q, 0, none⟩)) (hS : ∀ w, S w → Blk w q 34 (el n)) :
    OpSure Tryd.prog ops Q S F ⟨dst, .load 34 x, ty, pos, aft, gd⟩ := OpSure.take hw hp (fun w h => run_load_blk hx (hS w h) Tryd.underlying34 rfl info34)
/-- an operation without world -/
theorem sure_plain {ops : Array Oper} {Q : Exit → Act → World → Prop} {S : World → Prop} {F : Act} {o : Oper} {v : Value}
    (hw : Region.wanted o (yielded ops F.tmps) = true) (hp : F.put o.dst v = F) (h : ∀ w, (execOp F.eval o).run Tryd.prog w = .ok (.value v) w) : OpSure Tryd.prog ops Q S F o := OpSure.take hw hp (fun w _ => h w)
/-! whole loads, new variables and their filling, words without world, in a region that makes variables -/
section
variable {ops : Array Oper} {Q : Exit → Act → World → Prop} {F : (Nat → Nat) → Act} {md : Region.Mode} {i : Nat} {dst : Option Tmp} {ty ty' : TypeId} {pos : String} {aft : Array Edge} {gd : Option (Nat × Bool)}
  {w0 : World} {L : List (Nat × TypeId × Array Value)} {B : Nat} {k a0 t0 : Nat} {t : TypeId} {z : Array Value} {val : Nat → Array Value}
theorem ghost_load {x : Operand} {D : TypeDesc} {e : Nat × TypeId × Array Value} (j : Nat) (hj : L[j]? = some e) (hi : ∀ m, m < k → i ≠ a0 + m ∧ i ≠ t0 + m)
    (hw : ∀ g, Region.wanted ⟨dst, .load ty x, ty', pos, aft, gd⟩ (yielded ops (F g).tmps) = true) (hp : ∀ g, (F g).put dst (.agg e.2.2) = F g) (hx : ∀ g, (F g).eval x = .pointer (some ⟨e.1, 0, none⟩))
    (hu : Tryd.prog.underlying ty = some D) (hd : D.isRow = true) (hz : (Tryd.prog.info? ty).map (·.size) = some e.2.2.size) :
    OpGhost Tryd.prog md ops Q (GS w0 L B k a0 t0 t z val) F i ⟨dst, .load ty x, ty', pos, aft, gd⟩ :=
  OpGhost.take (v := fun _ => .agg e.2.2) hw hp (fun g _ _ h _ => ⟨run_load_blk (hx g) (h.held.get j hj) hu hd hz, h.load hi⟩)
theorem ghost_plain {o : Oper} {v : Value} (hi : ∀ m, m < k → i ≠ a0 + m ∧ i ≠ t0 + m) (hw : ∀ g, Region.wanted o (yielded ops (F g).tmps) = true) (hp : ∀ g, (F g).put o.dst v = F g)
    (hr : ∀ g w, (execOp (F g).eval o).run Tryd.prog w = .ok (.value v) w) : OpGhost Tryd.prog md ops Q (GS w0 L B k a0 t0 t z val) F i o :=
  OpGhost.take (v := fun _ => v) hw hp (fun g _ w h _ => ⟨hr g w, h.load hi⟩)
theorem ghost_call {f : FuncId} {xs : Array Operand} {ats : Array TypeId} {v : Value} (hi : ∀ m, m < k → i ≠ a0 + m ∧ i ≠ t0 + m)
    (hw : ∀ g, Region.wanted ⟨dst, .call { callee := .value (.func f), args := xs, argTypes := ats }, ty, pos, aft, gd⟩ (yielded ops (F g).tmps) = true) (hp : ∀ g, (F g).put dst v = F g)
    (hr : ∀ args w, (callFunc f args).run Tryd.prog w = .ok (.enter f args) w) (args : Array Value) (ha : ∀ g, #[] ++ xs.map (F g).eval ++ #[] = args)
    (hc : ∀ w, HA w0 L w → Calls Tryd.prog f args w fun e w' => e = .returned v ∧ Below w.heap.size w w') :
    OpGhost Tryd.prog md ops Q (GS w0 L B k a0 t0 t z val) F i ⟨dst, .call { callee := .value (.func f), args := xs, argTypes := ats }, ty, pos, aft, gd⟩ :=
  OpGhost.call (v := fun _ => v) (args := fun _ => args) hw hp (fun g w => by rw [execOp_call_go, ha g]; exact hr _ w) (fun _ _ w hS _ => (hc w hS.held).mono fun _ _ h => ⟨h.1, hS.call hi h.2⟩)
theorem ghost_make (j : Nat) (hj : j < k) (hi : i = a0 + j)
    (hw : ∀ g, Region.wanted ⟨dst, .alloc ty, ty', pos, aft, gd⟩ (yielded ops (F g).tmps) = true) (hp : ∀ g (m : Nat), (F g).put dst (.pointer (some ⟨m, 0, none⟩)) = F (up g i m))
    (hr : ∀ (ρ : Operand → Value) (w : World), (execOp ρ ⟨dst, .alloc ty, ty', pos, aft, gd⟩).run Tryd.prog w = .ok (.value (.pointer (some ⟨w.heap.size, 0, none⟩))) (w.alloc (.cells z ty))) :
    OpGhost Tryd.prog md ops Q (GS w0 L B k a0 t0 ty z val) F i ⟨dst, .alloc ty, ty', pos, aft, gd⟩ :=
  OpGhost.act (v := fun _ w => .pointer (some ⟨w.heap.size, 0, none⟩)) (n := fun _ w => w.heap.size) (W := fun _ w => w.alloc (.cells z ty)) hw (fun g w => hp g w.heap.size) (fun _ _ w h hd _ => ⟨hr _ w, h.make hj hi hd⟩)
theorem ghost_fill {x y : Operand} (j : Nat) (hj : j < k) (hi : i = t0 + j)
    (hw : ∀ g, Region.wanted ⟨dst, .store ty x y, ty', pos, aft, gd⟩ (yielded ops (F g).tmps) = true) (hp : ∀ g, (F g).put dst undef = F g)
    (hx : ∀ g, (F g).eval x = .pointer (some ⟨g (a0 + j), 0, none⟩)) (hy : ∀ g, (F g).eval y = .agg (val j)) (hz : (Tryd.prog.info? ty).map (·.size) = some (val j).size) (h1 : (val j).all (·.oneCell') = true)
    (he : (aft.any fun e => Region.binds .any e && e.on == a0 + j) = true) :
    OpGhost Tryd.prog .any ops Q (GS w0 L B k a0 t0 ty z val) F i ⟨dst, .store ty x y, ty', pos, aft, gd⟩ :=
  OpGhost.skips (W := fun g w => w.setCells (g (a0 + j)) 0 (val j).toList) hw hp (fun g d w h hd haft => by
    obtain ⟨m, hm, h3⟩ := Array.any_eq_true.1 he
    rw [Bool.and_eq_true, beq_iff_eq] at h3
    have ha : d (a0 + j) = true := by rw [← h3.2]; exact haft _ (Array.getElem_mem hm) h3.1
    have hb := (h.new.own j hj ha).2
    have hT : d (t0 + j) = false := hi ▸ hd
    rw [hT, if_neg (by decide)] at hb
    exact ⟨run_store_blk (hx g) (hy g) hb (h.siz j hj) hz h1, h.fill hj hi hd ha⟩)
end
section
variable {ops : Array Oper} {Q : Exit → Act → World → Prop} {F : (Nat → Nat) → Act} {md : Region.Mode} {i : Nat} {dst : Option Tmp} {ty ty' : TypeId} {pos : String} {aft : Array Edge} {gd : Option (Nat × Bool)}
  {w0 : World} {L M : List (Nat × TypeId × Array Value)}
theorem gm_load {x : Operand} {D : TypeDesc} {e : Nat × TypeId × Array Value} (j : Nat) (hj : L[j]? = some e) (hi : M.all (fun x => x.1 != i) = true)
    (hw : ∀ g, Region.wanted ⟨dst, .load ty x, ty', pos, aft, gd⟩ (yielded ops (F g).tmps) = true) (hp : ∀ g, (F g).put dst (.agg e.2.2) = F g) (hx : ∀ g, (F g).eval x = .pointer (some ⟨e.1, 0, none⟩))
    (hu : Tryd.prog.underlying ty = some D) (hd : D.isRow = true) (hz : (Tryd.prog.info? ty).map (·.size) = some e.2.2.size) :
    OpGhost Tryd.prog md ops Q (GM w0 L M) F i ⟨dst, .load ty x, ty', pos, aft, gd⟩ :=
  OpGhost.take (v := fun _ => .agg e.2.2) hw hp (fun g _ w h _ => ⟨run_load_blk (hx g) (h.held.get j hj) hu hd hz, h.call hi (Below.refl _ w)⟩)
theorem gm_plain {o : Oper} {v : (Nat → Nat) → Value} (hi : M.all (fun x => x.1 != i) = true) (hw : ∀ g, Region.wanted o (yielded ops (F g).tmps) = true) (hp : ∀ g, (F g).put o.dst (v g) = F g)
    (hr : ∀ g w, (execOp (F g).eval o).run Tryd.prog w = .ok (.value (v g)) w) : OpGhost Tryd.prog md ops Q (GM w0 L M) F i o :=
  OpGhost.take (v := v) hw hp (fun g _ w h _ => ⟨hr g w, h.call hi (Below.refl _ w)⟩)
theorem gm_skip {o : Oper} (hi : M.all (fun x => x.1 != i) = true) (hw : ∀ g, Region.wanted o (yielded ops (F g).tmps) = false) (hp : ∀ g, (F g).put o.dst undef = F g) : OpGhost Tryd.prog md ops Q (GM w0 L M) F i o := fun g _ w h _ _ => by
  rw [if_neg (by rw [hw g]; decide)]
  exact ⟨hp g, h.call hi (Below.refl _ w)⟩
/-- an operation that reads a block that the region makes -/
theorem gm_reads {o : Oper} {v : Value} (j : Nat) {e : Nat × TypeId × Array Value} (hj : M[j]? = some e) (hi : M.all (fun x => x.1 != i) = true) (hw : ∀ g, Region.wanted o (yielded ops (F g).tmps) = true) (hp : ∀ g, (F g).put o.dst v = F g)
    (he : (o.after.any fun x => Region.binds md x && x.on == e.1) = true) (hr : ∀ g w, Blk w (g e.1) e.2.1 e.2.2 → (execOp (F g).eval o).run Tryd.prog w = .ok (.value v) w) : OpGhost Tryd.prog md ops Q (GM w0 L M) F i o :=
  OpGhost.take (v := fun _ => v) hw hp (fun g d w h haft => by
    obtain ⟨m, hm, h3⟩ := Array.any_eq_true.1 he
    rw [Bool.and_eq_true, beq_iff_eq] at h3
    have hd : d e.1 = true := by rw [← h3.2]; exact haft _ (Array.getElem_mem hm) h3.1
    exact ⟨hr g w (h.get j hj hd), h.call hi (Below.refl _ w)⟩)
theorem gm_call {f : FuncId} {xs : Array Operand} {ats : Array TypeId} {v : Value} (hi : M.all (fun x => x.1 != i) = true)
    (hw : ∀ g, Region.wanted ⟨dst, .call { callee := .value (.func f), args := xs, argTypes := ats }, ty, pos, aft, gd⟩ (yielded ops (F g).tmps) = true) (hp : ∀ g, (F g).put dst v = F g)
    (hr : ∀ args w, (callFunc f args).run Tryd.prog w = .ok (.enter f args) w) (args : Array Value) (ha : ∀ g, #[] ++ xs.map (F g).eval ++ #[] = args)
    (hc : ∀ w, HA w0 L w → Calls Tryd.prog f args w fun e w' => e = .returned v ∧ Below w.heap.size w w') :
    OpGhost Tryd.prog md ops Q (GM w0 L M) F i ⟨dst, .call { callee := .value (.func f), args := xs, argTypes := ats }, ty, pos, aft, gd⟩ :=
  OpGhost.call (v := fun _ => v) (args := fun _ => args) hw hp (fun g w => by rw [execOp_call_go, ha g]; exact hr _ w) (fun _ _ w hS _ => (hc w hS.held).mono fun _ _ h => ⟨h.1, hS.call hi h.2⟩)
theorem gm_make {o : Oper} {t : TypeId} {c : Array Value} (v : Nat → Value) (hi : M.all (fun x => x.1 != i || (decide (x.2.1 = t))) = true) (hc : ∀ x ∈ M, x.1 = i → x.2.2 = c) (hw : ∀ g, Region.wanted o (yielded ops (F g).tmps) = true)
    (hp : ∀ g (m : Nat), (F g).put o.dst (v m) = F (up g i m)) (hr : ∀ g w, (execOp (F g).eval o).run Tryd.prog w = .ok (.value (v w.heap.size)) (w.alloc (.cells c t))) : OpGhost Tryd.prog md ops Q (GM w0 L M) F i o :=
  OpGhost.act (v := fun _ w => v w.heap.size) (n := fun _ w => w.heap.size) (W := fun _ w => w.alloc (.cells c t)) hw (fun g w => hp g w.heap.size) (fun g _ w h _ _ => ⟨hr g w, h.make hi hc⟩)
end
theorem run_box34 {ρ : Operand → Value} {x : Operand} {c : Array Value} {w : World} {dst : Option Tmp} {ty : TypeId} {pos : String} {aft : Array Edge} {gd : Option (Nat × Bool)} (hx : ρ x = .agg c) :
    (execOp ρ ⟨dst, .box 34 x, ty, pos, aft, gd⟩).run Tryd.prog w = .ok (.value (.pointer (some ⟨w.heap.size, 0, none⟩))) (w.alloc (.cells c 34)) := by
  simp only [execOp, hx]
  go_simp
end Go.Proofs.YtdblnbcclfenkaaDoor
