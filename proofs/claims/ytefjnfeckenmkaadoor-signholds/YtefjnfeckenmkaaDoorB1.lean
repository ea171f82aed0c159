/-
  Elements as variables; calls as sure operations.
-/
import Derived.Test.YtefjnfeckenmkaaDoorW0
import Derived.Test.YtefjnfeckenmkaaDoorB0
import Derived.Test.YtefjnfeckenmkaaDoorW1
import Derived.Deep.OwnRows
namespace Go.Proofs.YtefjnfeckenmkaaDoor
open Go.RowKit Num

/-- the cells of an element -/
def el (n : Nat) : Array Value := cl .u64 (digs K 4 n)
theorem el_size (n : Nat) : (el n).size = 4 := rfl
theorem info25 : (Tryd.prog.info? 37).map (·.size) = some 4 := by kernel_rfl
theorem one_cl (k : IntKind) (l : List Nat) : (cl k l).all (·.oneCell') = true := all_oneCell_toArray fun v hv => by
  obtain ⟨n, _, rfl⟩ := List.mem_map.1 hv
  rfl
theorem one_el (n : Nat) : (el n).all (·.oneCell') = true := one_cl _ _
theorem run_alloc25 {ρ : Operand → Value} {w : World} {dst : Option Tmp} {ty : TypeId} {pos : String} {aft : Array Edge} {gd : Option (Nat × Bool)} :
    (execOp ρ ⟨dst, .alloc 37, ty, pos, aft, gd⟩).run Tryd.prog w = .ok (.value (.pointer (some ⟨w.heap.size, 0, none⟩))) (w.alloc (.cells (el 0) 37)) := by
  simp only [execOp]
  go_simp
  rfl

/-- a call that keeps old memory, as a sure operation -/
theorem sure_call {ops : Array Oper} {Q : Exit → Act → World → Prop} {S : World → Prop} {F : Act} {dst : Option Tmp} {f : FuncId} {xs : Array Operand} {ats : Array TypeId} {ty : TypeId} {pos : String} {aft : Array Edge} {gd : Option (Nat × Bool)} {v : Value}
    (hw : Region.wanted ⟨dst, .call { callee := .value (.func f), args := xs, argTypes := ats }, ty, pos, aft, gd⟩ (yielded ops F.tmps) = true) (hp : F.put dst v = F)
    (hr : ∀ args w, (callFunc f args).run Tryd.prog w = .ok (.enter f args) w) (hk : ∀ w w', S w → Below w.heap.size w w' → S w') (args : Array Value) (ha : #[] ++ xs.map F.eval ++ #[] = args)
    (hc : ∀ w, S w → Calls Tryd.prog f args w fun e w' => e = .returned v ∧ Below w.heap.size w w') :
    OpSure Tryd.prog ops Q S F ⟨dst, .call { callee := .value (.func f), args := xs, argTypes := ats }, ty, pos, aft, gd⟩ := by
  subst ha
  exact OpSure.call hw hp (fun w _ => by rw [execOp_call_go]; exact hr _ w) (fun w hS => (hc w hS).mono fun e w' h => ⟨h.1, hk w w' hS h.2⟩)
theorem enter29 (args : Array Value) (w : World) : (callFunc 34 args).run Tryd.prog w = .ok (.enter 34 args) w := by go_simp
theorem enter32 (args : Array Value) (w : World) : (callFunc 13 args).run Tryd.prog w = .ok (.enter 13 args) w := by go_simp
theorem enter33 (args : Array Value) (w : World) : (callFunc 16 args).run Tryd.prog w = .ok (.enter 16 args) w := by go_simp
theorem enter34 (args : Array Value) (w : World) : (callFunc 11 args).run Tryd.prog w = .ok (.enter 11 args) w := by go_simp
theorem enter37 (args : Array Value) (w : World) : (callFunc 49 args).run Tryd.prog w = .ok (.enter 49 args) w := by go_simp
theorem enter38 (args : Array Value) (w : World) : (callFunc 31 args).run Tryd.prog w = .ok (.enter 31 args) w := by go_simp
theorem enter39 (args : Array Value) (w : World) : (callFunc 50 args).run Tryd.prog w = .ok (.enter 50 args) w := by go_simp
theorem enter40 (args : Array Value) (w : World) : (callFunc 44 args).run Tryd.prog w = .ok (.enter 44 args) w := by go_simp
theorem enter41 (args : Array Value) (w : World) : (callFunc 51 args).run Tryd.prog w = .ok (.enter 51 args) w := by go_simp
theorem enter42 (args : Array Value) (w : World) : (callFunc 52 args).run Tryd.prog w = .ok (.enter 52 args) w := by go_simp
theorem enter43 (args : Array Value) (w : World) : (callFunc 32 args).run Tryd.prog w = .ok (.enter 32 args) w := by go_simp
theorem enter47 (args : Array Value) (w : World) : (callFunc 39 args).run Tryd.prog w = .ok (.enter 39 args) w := by go_simp
theorem enter48 (args : Array Value) (w : World) : (callFunc 40 args).run Tryd.prog w = .ok (.enter 40 args) w := by go_simp
theorem enter49 (args : Array Value) (w : World) : (callFunc 41 args).run Tryd.prog w = .ok (.enter 41 args) w := by go_simp
theorem enter55 (args : Array Value) (w : World) : (callFunc 33 args).run Tryd.prog w = .ok (.enter 33 args) w := by go_simp
theorem enter56 (args : Array Value) (w : World) : (callFunc 35 args).run Tryd.prog w = .ok (.enter 35 args) w := by go_simp
theorem enter57 (args : Array Value) (w : World) : (callFunc 38 args).run Tryd.prog w = .ok (.enter 38 args) w := by go_simp
theorem enter61 (args : Array Value) (w : World) : (callFunc 36 args).run Tryd.prog w = .ok (.enter 36 args) w := by go_simp
theorem enter62 (args : Array Value) (w : World) : (callFunc 37 args).run Tryd.prog w = .ok (.enter 37 args) w := by go_simp
theorem enter71 (args : Array Value) (w : World) : (callFunc 45 args).run Tryd.prog w = .ok (.enter 45 args) w := by go_simp
theorem enter72 (args : Array Value) (w : World) : (callFunc 28 args).run Tryd.prog w = .ok (.enter 28 args) w := by go_simp
theorem enter73 (args : Array Value) (w : World) : (callFunc 30 args).run Tryd.prog w = .ok (.enter 30 args) w := by go_simp
theorem enter74 (args : Array Value) (w : World) : (callFunc 27 args).run Tryd.prog w = .ok (.enter 27 args) w := by go_simp
theorem enter75 (args : Array Value) (w : World) : (callFunc 29 args).run Tryd.prog w = .ok (.enter 29 args) w := by go_simp
theorem enter76 (args : Array Value) (w : World) : (callFunc 43 args).run Tryd.prog w = .ok (.enter 43 args) w := by go_simp
theorem enter78 (args : Array Value) (w : World) : (callFunc 63 args).run Tryd.prog w = .ok (.enter 63 args) w := by go_simp
theorem enter79 (args : Array Value) (w : World) : (callFunc 58 args).run Tryd.prog w = .ok (.enter 58 args) w := by go_simp
theorem enter80 (args : Array Value) (w : World) : (callFunc 60 args).run Tryd.prog w = .ok (.enter 60 args) w := by go_simp
theorem enter81 (args : Array Value) (w : World) : (callFunc 64 args).run Tryd.prog w = .ok (.enter 64 args) w := by go_simp
theorem enter82 (args : Array Value) (w : World) : (callFunc 71 args).run Tryd.prog w = .ok (.enter 71 args) w := by go_simp
theorem enter87 (args : Array Value) (w : World) : (callFunc 59 args).run Tryd.prog w = .ok (.enter 59 args) w := by go_simp
theorem enter91 (args : Array Value) (w : World) : (callFunc 61 args).run Tryd.prog w = .ok (.enter 61 args) w := by go_simp
theorem enter92 (args : Array Value) (w : World) : (callFunc 62 args).run Tryd.prog w = .ok (.enter 62 args) w := by go_simp
theorem enter100 (args : Array Value) (w : World) : (callFunc 48 args).run Tryd.prog w = .ok (.enter 48 args) w := by go_simp
theorem enter103 (args : Array Value) (w : World) : (callFunc 55 args).run Tryd.prog w = .ok (.enter 55 args) w := by go_simp
theorem enter104 (args : Array Value) (w : World) : (callFunc 56 args).run Tryd.prog w = .ok (.enter 56 args) w := by go_simp
theorem enter105 (args : Array Value) (w : World) : (callFunc 70 args).run Tryd.prog w = .ok (.enter 70 args) w := by go_simp
theorem enter112 (args : Array Value) (w : World) : (callFunc 72 args).run Tryd.prog w = .ok (.enter 72 args) w := by go_simp
/-! whole loads, new variables and their filling, words without world, in a region that makes variables -/
section
variable {ops : Array Oper} {Q : Exit → Act → World → Prop} {F : (Nat → Nat) → Act} {md : Region.Mode} {i : Nat} {dst : Option Tmp} {ty ty' : TypeId} {pos : String} {aft : Array Edge} {gd : Option (Nat × Bool)}
  {w0 : World} {L : List (Nat × TypeId × Array Value)} {B : Nat} {k a0 t0 : Nat} {t : TypeId} {z : Array Value} {val : Nat → Array Value}
theorem ghost_load {x : Operand} {D : TypeDesc} {e : Nat × TypeId × Array Value} (j : Nat) (hj : L[j]? = some e) (hi : ∀ m, m < k → i ≠ a0 + m ∧ i ≠ t0 + m)
    (hw : ∀ g, Region.wanted ⟨dst, .load ty x, ty', pos, aft, gd⟩ (yielded ops (F g).tmps) = true) (hp : ∀ g, (F g).put dst (.agg e.2.2) = F g) (hx : ∀ g, (F g).eval x = .pointer (some ⟨e.1, 0, none⟩))
    (hu : Tryd.prog.underlying ty = some D) (hd : D.isRow = true) (hz : (Tryd.prog.info? ty).map (·.size) = some e.2.2.size) :
    OpGhost Tryd.prog md ops Q (GS w0 L B k a0 t0 t z val) F i ⟨dst, .load ty x, ty', pos, aft, gd⟩ :=
  OpGhost.take (v := fun _ => .agg e.2.2) hw hp (fun g _ _ h _ => ⟨run_load_blk (hx g) (h.held.get j hj) hu hd hz, h.load hi⟩)
theorem ghost_plain {o : Oper} {v : Value} (hi : ∀ m, m < k → i ≠ a0 + m ∧ i ≠ t0 + m) (hw : ∀ g, Region.wanted o (yielded ops (F g).tmps) = true) (hp : ∀ g, (F g).put o.dst v = F g)
    (hr : ∀ g w, (execOp (F g).eval o).run Tryd.prog w = .ok (.value v) w) : OpGhost Tryd.prog md ops Q (GS w0 L B k a0 t0 t z val) F i o :=
  OpGhost.take (v := fun _ => v) hw hp (fun g _ w h _ => ⟨hr g w, h.load hi⟩)
theorem ghost_call {f : FuncId} {xs : Array Operand} {ats : Array TypeId} {v : Value} (hi : ∀ m, m < k → i ≠ a0 + m ∧ i ≠ t0 + m)
    (hw : ∀ g, Region.wanted ⟨dst, .call { callee := .value (.func f), args := xs, argTypes := ats }, ty, pos, aft, gd⟩ (yielded ops (F g).tmps) = true) (hp : ∀ g, (F g).put dst v = F g)
    (hr : ∀ args w, (callFunc f args).run Tryd.prog w = .ok (.enter f args) w) (args : Array Value) (ha : ∀ g, #[] ++ xs.map (F g).eval ++ #[] = args)
    (hc : ∀ w, HA w0 L w → Calls Tryd.prog f args w fun e w' => e = .returned v ∧ Below w.heap.size w w') :
    OpGhost Tryd.prog md ops Q (GS w0 L B k a0 t0 t z val) F i ⟨dst, .call { callee := .value (.func f), args := xs, argTypes := ats }, ty, pos, aft, gd⟩ :=
  OpGhost.call (v := fun _ => v) (args := fun _ => args) hw hp (fun g w => by rw [execOp_call_go, ha g]; exact hr _ w) (fun _ _ w hS _ => (hc w hS.held).mono fun _ _ h => ⟨h.1, hS.call hi h.2⟩)
theorem ghost_make (j : Nat) (hj : j < k) (hi : i = a0 + j)
    (hw : ∀ g, Region.wanted ⟨dst, .alloc ty, ty', pos, aft, gd⟩ (yielded ops (F g).tmps) = true) (hp : ∀ g (m : Nat), (F g).put dst (.pointer (some ⟨m, 0, none⟩)) = F (up g i m))
    (hr : ∀ (ρ : Operand → Value) (w : World), (execOp ρ ⟨dst, .alloc ty, ty', pos, aft, gd⟩).run Tryd.prog w = .ok (.value (.pointer (some ⟨w.heap.size, 0, none⟩))) (w.alloc (.cells z ty))) :
    OpGhost Tryd.prog md ops Q (GS w0 L B k a0 t0 ty z val) F i ⟨dst, .alloc ty, ty', pos, aft, gd⟩ :=
  OpGhost.act (v := fun _ w => .pointer (some ⟨w.heap.size, 0, none⟩)) (n := fun _ w => w.heap.size) (W := fun _ w => w.alloc (.cells z ty)) hw (fun g w => hp g w.heap.size) (fun _ _ w h hd _ => ⟨hr _ w, h.make hj hi hd⟩)
theorem ghost_fill {x y : Operand} (j : Nat) (hj : j < k) (hi : i = t0 + j)
    (hw : ∀ g, Region.wanted ⟨dst, .store ty x y, ty', pos, aft, gd⟩ (yielded ops (F g).tmps) = true) (hp : ∀ g, (F g).put dst undef = F g)
    (hx : ∀ g, (F g).eval x = .pointer (some ⟨g (a0 + j), 0, none⟩)) (hy : ∀ g, (F g).eval y = .agg (val j)) (hz : (Tryd.prog.info? ty).map (·.size) = some (val j).size) (h1 : (val j).all (·.oneCell') = true)
    (he : (aft.any fun e => Region.binds .any e && e.on == a0 + j) = true) :
    OpGhost Tryd.prog .any ops Q (GS w0 L B k a0 t0 ty z val) F i ⟨dst, .store ty x y, ty', pos, aft, gd⟩ :=
  OpGhost.skips (W := fun g w => w.setCells (g (a0 + j)) 0 (val j).toList) hw hp (fun g d w h hd haft => by
    obtain ⟨m, hm, h3⟩ := Array.any_eq_true.1 he
    rw [Bool.and_eq_true, beq_iff_eq] at h3
    have ha : d (a0 + j) = true := by rw [← h3.2]; exact haft _ (Array.getElem_mem hm) h3.1
    have hb := (h.new.own j hj ha).2
    have hT : d (t0 + j) = false := hi ▸ hd
    rw [hT, if_neg (by decide)] at hb
    exact ⟨run_store_blk (hx g) (hy g) hb (h.siz j hj) hz h1, h.fill hj hi hd ha⟩)
end
section
variable {ops : Array Oper} {Q : Exit → Act → World → Prop} {F : (Nat → Nat) → Act} {md : Region.Mode} {i : Nat} {dst : Option Tmp} {ty ty' : TypeId} {pos : String} {aft : Array Edge} {gd : Option (Nat × Bool)}
  {w0 : World} {L M : List (Nat × TypeId × Array Value)}
theorem gm_load {x : Operand} {D : TypeDesc} {e : Nat × TypeId × Array Value} (j : Nat) (hj : L[j]? = some e) (hi : M.all (fun x => x.1 != i) = true)
    (hw : ∀ g, Region.wanted ⟨dst, .load ty x, ty', pos, aft, gd⟩ (yielded ops (F g).tmps) = true) (hp : ∀ g, (F g).put dst (.agg e.2.2) = F g) (hx : ∀ g, (F g).eval x = .pointer (some ⟨e.1, 0, none⟩))
    (hu : Tryd.prog.underlying ty = some D) (hd : D.isRow = true) (hz : (Tryd.prog.info? ty).map (·.size) = some e.2.2.size) :
    OpGhost Tryd.prog md ops Q (GM w0 L M) F i ⟨dst, .load ty x, ty', pos, aft, gd⟩ :=
  OpGhost.take (v := fun _ => .agg e.2.2) hw hp (fun g _ w h _ => ⟨run_load_blk (hx g) (h.held.get j hj) hu hd hz, h.call hi (Below.refl _ w)⟩)
theorem gm_plain {o : Oper} {v : (Nat → Nat) → Value} (hi : M.all (fun x => x.1 != i) = true) (hw : ∀ g, Region.wanted o (yielded ops (F g).tmps) = true) (hp : ∀ g, (F g).put o.dst (v g) = F g)
    (hr : ∀ g w, (execOp (F g).eval o).run Tryd.prog w = .ok (.value (v g)) w) : OpGhost Tryd.prog md ops Q (GM w0 L M) F i o :=
  OpGhost.take (v := v) hw hp (fun g _ w h _ => ⟨hr g w, h.call hi (Below.refl _ w)⟩)
theorem gm_make {o : Oper} {t : TypeId} {c : Array Value} (v : Nat → Value) (hi : M.all (fun x => x.1 != i || (decide (x.2.1 = t))) = true) (hc : ∀ x ∈ M, x.1 = i → x.2.2 = c) (hw : ∀ g, Region.wanted o (yielded ops (F g).tmps) = true)
    (hp : ∀ g (m : Nat), (F g).put o.dst (v m) = F (up g i m)) (hr : ∀ g w, (execOp (F g).eval o).run Tryd.prog w = .ok (.value (v w.heap.size)) (w.alloc (.cells c t))) : OpGhost Tryd.prog md ops Q (GM w0 L M) F i o :=
  OpGhost.act (v := fun _ w => v w.heap.size) (n := fun _ w => w.heap.size) (W := fun _ w => w.alloc (.cells c t)) hw (fun g w => hp g w.heap.size) (fun g _ w h _ _ => ⟨hr g w, h.make hi hc⟩)
end
theorem run_box25 {ρ : Operand → Value} {x : Operand} {c : Array Value} {w : World} {dst : Option Tmp} {ty : TypeId} {pos : String} {aft : Array Edge} {gd : Option (Nat × Bool)} (hx : ρ x = .agg c) :
    (execOp ρ ⟨dst, .box 37 x, ty, pos, aft, gd⟩).run Tryd.prog w = .ok (.value (.pointer (some ⟨w.heap.size, 0, none⟩))) (w.alloc (.cells c 37)) := by
  simp only [execOp, hx]
  go_simp
end Go.Proofs.YtefjnfeckenmkaaDoor

namespace Go.Proofs.YtefjnfeckenmkaaDoor
open Go.RowKit Num

theorem Same_yes (a b : Nat) (ha : a < P) (hb : b < P) (h : a = b) (w : World) :
    Calls Tryd.prog 44 #[arr a, arr b] w fun e w' => e = .returned (.bool true) ∧ Below w.heap.size w w' := by
  have h1 := Same_any a b (Nat.lt_trans ha P_lt) (Nat.lt_trans hb P_lt) w
  rw [decide_eq_true h] at h1
  exact h1
theorem Same_no (a b : Nat) (ha : a < P) (hb : b < P) (h : a ≠ b) (w : World) :
    Calls Tryd.prog 44 #[arr a, arr b] w fun e w' => e = .returned (.bool false) ∧ Below w.heap.size w w' := by
  have h1 := Same_any a b (Nat.lt_trans ha P_lt) (Nat.lt_trans hb P_lt) w
  rw [decide_eq_false h] at h1
  exact h1
theorem Odd_yes (a : Nat) (h : a % 2 = 1) (w : World) :
    Calls Tryd.prog 41 #[arr a] w fun e w' => e = .returned (.bool true) ∧ Below w.heap.size w w' := by
  have h1 := Odd_any a w
  rw [decide_eq_true h] at h1
  exact h1
theorem Odd_no (a : Nat) (h : a % 2 = 0) (w : World) :
    Calls Tryd.prog 41 #[arr a] w fun e w' => e = .returned (.bool false) ∧ Below w.heap.size w w' := by
  have h1 := Odd_any a w
  rw [decide_eq_false (by omega)] at h1
  exact h1
theorem run_eqb {ρ : Operand → Value} {x y : Operand} (p q : Bool) {w : World} {dst : Option Tmp} {ty : TypeId} {pos : String} {aft : Array Edge} {gd : Option (Nat × Bool)} (hx : ρ x = .bool p) (hy : ρ y = .bool q) :
    (execOp ρ ⟨dst, .binOp .eql 4 x y 4, ty, pos, aft, gd⟩).run Tryd.prog w = .ok (.value (.bool (p == q))) w := by
  simp only [execOp, hx, hy]
  cases p <;> cases q <;> go_simp
/-- bytes that are nought, and a block of them -/
def zs (n : Nat) : ByteArray := ⟨(List.replicate n 0).toArray⟩
def zr (n : Nat) : Array Value := madeCells #[.int .u8 0] n
theorem run_make (n : Nat) (hn : n ≤ 1000) (w : World) : (Instr.makeSlice 27 (.int .i64 (n : Int)) (.int .i64 (n : Int))).run Tryd.prog w = .ok (.slice (some ⟨w.heap.size, 0, none⟩) n n) (w.alloc (.cells (zr n) 5)) :=
  run_make_row' 27 5 (.int .u8 0) 1 Tryd.underlying27 info5 rfl .i64 .i64 n (by omega) (by omega) w
section
variable {ρ : Operand → Value} {x y : Operand} {w : World} {dst : Option Tmp} {T T2 ty : TypeId} {pos : String} {aft : Array Edge} {gd : Option (Nat × Bool)}
theorem run_mk (n : Nat) (hn : n ≤ 1000) (hx : ρ x = .int .i64 (n : Int)) (hy : ρ y = .int .i64 (n : Int)) :
    (execOp ρ ⟨dst, .makeSlice 27 x y, ty, pos, aft, gd⟩).run Tryd.prog w = .ok (.value (.slice (some ⟨w.heap.size, 0, none⟩) n n)) (w.alloc (.cells (zr n) 5)) := by
  simp only [execOp, hx, hy, Sem.run_bind, run_make n hn w, Result.andThen_ok, Sem.run_pure]
theorem run_text {q n : Nat} {c : Array Value} (l : List UInt8) (hx : ρ x = .slice (some ⟨q, 0, none⟩) n n) (h : Blk w q 5 c) (hc : c = (cs l).toArray) (hn : n = l.length) :
    (execOp ρ ⟨dst, .convert 27 9 x, ty, pos, aft, gd⟩).run Tryd.prog w = .ok (.value (.string ⟨l.toArray⟩)) w := by
  subst hc hn
  have hcell : ∀ j (hj : j < l.length), w.cell? ((⟨q, 0, none⟩ : Addr).add j) = some (.int .u8 ((l[j]).toNat : Int)) := fun j hj => by
    have hadd : (⟨q, 0, none⟩ : Addr).add j = ⟨q, j, none⟩ := by unfold Addr.add; split <;> simp_all
    rw [hadd, h.cell j]
    simp [cs, List.getElem?_eq_getElem hj]
  have := run_convert_bytes_back (P := Tryd.prog) w 27 9 5 ⟨q, 0, none⟩ l.length l Tryd.underlying27 Tryd.underlying5 Tryd.underlying9 hcell
  simp only [execOp, hx, Sem.run_bind, this, Result.andThen_ok, Sem.run_pure]
end

theorem cs_set (l : List UInt8) (i : Nat) (z : UInt8) : (cs l).toArray.setIfInBounds i (.int .u8 (z.toNat : Int)) = (cs (l.set i z)).toArray := by
  simp [cs, List.map_set]

theorem bytesOf_size (n : Nat) : (bytesOf n).size = 32 := by
  show (les 32 n).toArray.size = 32
  simp [les_length]
end Go.Proofs.YtefjnfeckenmkaaDoor

namespace Go.Proofs.YtefjnfeckenmkaaDoor
open Go.RowKit Num

theorem run_len {ρ : Operand → Value} {x : Operand} {s : ByteArray} {w : World} {dst : Option Tmp} {ty : TypeId} {pos : String} {aft : Array Edge} {gd : Option (Nat × Bool)} (hx : ρ x = .string s) :
    (execOp ρ ⟨dst, .call { callee := .builtin .len, args := #[x], argTypes := #[9] }, ty, pos, aft, gd⟩).run Tryd.prog w = .ok (.value (iN .i64 s.size)) w := by
  simp only [execOp, iN]
  go_simp
theorem run_geq0 {ρ : Operand → Value} {x y : Operand} {w : World} {dst : Option Tmp} {T T2 ty : TypeId} {pos : String} {aft : Array Edge} {gd : Option (Nat × Bool)} {P : Program} {k : IntKind} {a b : Int} (hx : ρ x = .int k a) (hy : ρ y = .int k b) (t : Bool) (ht : decide (b ≤ a) = t) :
    (execOp ρ ⟨dst, .binOp .geq T x y T2, ty, pos, aft, gd⟩).run P w = .ok (.value (.bool t)) w := by
  subst ht
  simp only [execOp, hx, hy]
  simp [binOp, go_sem]
theorem run_conv8 {ρ : Operand → Value} {x : Operand} {a : Nat} {w : World} {dst : Option Tmp} {T T2 ty : TypeId} {pos : String} {aft : Array Edge} {gd : Option (Nat × Bool)} {P : Program} {k : IntKind} (hT : P.underlying T = some (.int k)) (hT2 : P.underlying T2 = some (.int .u8)) (hx : ρ x = iN k a) :
    (execOp ρ ⟨dst, .convert T T2 x, ty, pos, aft, gd⟩).run P w = .ok (.value (iN .u8 (a % 256))) w := by
  simp only [execOp, hx, iN]
  have h : IntKind.u8.wrap (a : Int) = ((a % 256 : Nat) : Int) := by rw [IntKind.wrap_u8']; omega
  simpa [go_sem, hT, hT2] using h
/-- a region that draws its order and puts one cell, by number i0 -/
def GP (w0 : World) (L : List (Nat × TypeId × Array Value)) (i0 j q : Nat) (t : TypeId) (c : Array Value) (_ : Nat → Nat) (d : Nat → Bool) (w : World) : Prop := HA w0 (if d i0 = true then L.set j (q, t, c) else L) w
section
variable {ops : Array Oper} {Q : Exit → Act → World → Prop} {F : (Nat → Nat) → Act} {md : Region.Mode} {i i0 j q : Nat} {dst : Option Tmp} {T ty : TypeId} {pos : String} {aft : Array Edge} {gd : Option (Nat × Bool)}
  {w0 : World} {L : List (Nat × TypeId × Array Value)} {t : TypeId} {c : Array Value}
theorem GP.keep {g : Nat → Nat} {d : Nat → Bool} {w : World} (h : GP w0 L i0 j q t c g d w) (hi : i ≠ i0) : GP w0 L i0 j q t c g (up d i true) w := by
  unfold GP
  rw [up_ne _ _ (Ne.symm hi)]
  exact h
theorem GP.get {g : Nat → Nat} {d : Nat → Bool} {w : World} (h : GP w0 L i0 j q t c g d w) (m : Nat) (hm : j ≠ m) {x : Nat × TypeId × Array Value} (hx : L[m]? = some x) : Blk w x.1 x.2.1 x.2.2 := by
  unfold GP at h
  split at h
  · exact h.get m (by rw [List.getElem?_set_ne hm]; exact hx)
  · exact h.get m hx
theorem gp_plain {o : Oper} {v : Value} (hi : i ≠ i0) (hw : ∀ g, Region.wanted o (yielded ops (F g).tmps) = true) (hp : ∀ g, (F g).put o.dst v = F g)
    (hr : ∀ g w, (execOp (F g).eval o).run Tryd.prog w = .ok (.value v) w) : OpGhost Tryd.prog md ops Q (GP w0 L i0 j q t c) F i o :=
  OpGhost.take (v := fun _ => v) hw hp (fun g _ w h _ => ⟨hr g w, h.keep hi⟩)
theorem gp_put {x y : Operand} {k : IntKind} {z : Int} {c0 : Array Value} {off : Nat} (hL : L[j]? = some (q, t, c0)) (hoff : off < c0.size) (hc : c0.setIfInBounds off (.int k z) = c) (hs : ∀ w, (sizeOf T).run Tryd.prog w = .ok 1 w)
    (hw : ∀ g, Region.wanted ⟨dst, .store T x y, ty, pos, aft, gd⟩ (yielded ops (F g).tmps) = true) (hp : ∀ g, (F g).put dst undef = F g) (hx : ∀ g, (F g).eval x = .pointer (some ⟨q, off, none⟩)) (hy : ∀ g, (F g).eval y = .int k z) :
    OpGhost Tryd.prog md ops Q (GP w0 L i0 j q t c) F i0 ⟨dst, .store T x y, ty, pos, aft, gd⟩ :=
  OpGhost.skips (W := fun _ w => w.setCell ⟨q, off, none⟩ (.int k z)) hw hp (fun g d w h hd _ => by
    unfold GP at h ⊢
    rw [hd, if_neg (by decide)] at h
    rw [up_at, if_pos rfl]
    refine ⟨run_store1 hs (hx g) (hy g) (by rw [(h.get j hL).cell off]; simp [hoff]) ((h.get j hL).free off hoff), ?_⟩
    have := h.put j hL off (.int k z)
    rw [hc] at this
    exact this)
theorem GP.start {g : Nat → Nat} {d : Nat → Bool} {w : World} (h : HA w0 L w) (hd : d i0 = false) : GP w0 L i0 j q t c g d w := by
  unfold GP
  rw [hd]
  exact h
end
end Go.Proofs.YtefjnfeckenmkaaDoor

namespace Go.Proofs.YtefjnfeckenmkaaDoor
open Go.RowKit Num

/-- bytes laid so far -/
def by8 (m : Nat) : Array Value := cl .u8 (digs 256 32 m)
/-- a byte of a text -/
def sb (s : ByteArray) (i : Nat) : Nat := numS s / 256 ^ i % 256
theorem sb_lt (s : ByteArray) (i : Nat) : sb s i < 256 := Nat.mod_lt _ (by decide)
theorem sb_get (s : ByteArray) (i : Nat) (h : i < s.size) : (s.get i h).toNat = sb s i := by
  unfold sb numS
  have hl : (bts s).length = s.size := bts_length s
  have h1 : digs 256 (bts s).length (num 256 (bts s)) = bts s := digs_num 256 (bts s) (bts_lt s) _ rfl
  have h2 := digs_get 256 (bts s).length (num 256 (bts s)) i (by rw [digs_length]; omega)
  rw [← h2]
  simp only [h1]
  simp [bts]
  rfl
theorem run_sidx {ρ : Operand → Value} {x y : Operand} {s : ByteArray} {a : Nat} {w : World} {dst : Option Tmp} {ty : TypeId} {pos : String} {aft : Array Edge} {gd : Option (Nat × Bool)} (hx : ρ x = .string s) (hy : ρ y = iN .i64 a) (ha : a < s.size) :
    (execOp ρ ⟨dst, .index 9 x y, ty, pos, aft, gd⟩).run Tryd.prog w = .ok (.value (iN .u8 (sb s a))) w := by
  rw [← sb_get s a ha]
  exact run_index_str Tryd.underlying9 hx hy ha
end Go.Proofs.YtefjnfeckenmkaaDoor

namespace Go.Proofs.YtefjnfeckenmkaaDoor
open Go.RowKit Num

theorem bit_of (s : ByteArray) (j : Nat) : (sb s (j / 8) / 2 ^ (j % 8) &&& 1) = numS s / 2 ^ j % 2 := by
  have e : 2 ^ j = 256 ^ (j / 8) * 2 ^ (j % 8) := by
    rw [show (256 : Nat) = 2 ^ 8 from rfl, ← Nat.pow_mul, ← Nat.pow_add]
    congr 1
    omega
  have h1 : (sb s (j / 8) / 2 ^ (j % 8) &&& 1) = sb s (j / 8) / 2 ^ (j % 8) % 2 := Nat.and_two_pow_sub_one_eq_mod _ 1
  rw [h1, e, ← Nat.div_div_eq_div_mul]
  unfold sb
  generalize numS s / 256 ^ (j / 8) = M
  have hr : j % 8 < 8 := Nat.mod_lt _ (by decide)
  generalize j % 8 = r at *
  rcases r with _ | _ | _ | _ | _ | _ | _ | _ | r
  all_goals first | (simp only [Nat.reduceAdd, Nat.reducePow]; omega) | omega
end Go.Proofs.YtefjnfeckenmkaaDoor

namespace Go.Proofs.YtefjnfeckenmkaaDoor
open Go.RowKit Num

theorem Of_yes (s : ByteArray) {n : Nat} (h : ofP s = some n) (w : World) (V : Vars w) :
    Calls Tryd.prog 31 #[.string s] w fun e w' => e = .returned (.tuple #[arr n, .bool true]) ∧ Below w.heap.size w w' := by
  have h1 := Of_any s w V
  rw [h] at h1
  exact h1
theorem Of_no (s : ByteArray) (h : ofP s = none) (w : World) (V : Vars w) :
    Calls Tryd.prog 31 #[.string s] w fun e w' => e = .returned (.tuple #[arr 0, .bool false]) ∧ Below w.heap.size w w' := by
  have h1 := Of_any s w V
  rw [h] at h1
  exact h1

theorem numS_lt (s : ByteArray) (h : s.size = 32) : numS s % 65536 ^ 16 = numS s := by
  have h1 := num_lt 256 (bts s) (bts_lt s)
  rw [bts_length, h] at h1
  exact Nat.mod_eq_of_lt (Nat.lt_of_lt_of_le h1 (by decide))
end Go.Proofs.YtefjnfeckenmkaaDoor

namespace Go.Proofs.YtefjnfeckenmkaaDoor
open Go.RowKit Num

/-- a loop whose measure gets less -/
theorem rounds_more {P : Program} {Q : Exit → Act → World → Prop} {c : Code} : ∀ (n : Nat) (a : Act) (w : World), Code.rounds P c Q n a w → Code.rounds P c Q (n + 1) a w
  | 0, _, _, h => h.elim
  | n + 1, a, w, h => by
    rw [rounds_succ] at h ⊢
    exact Code.wp_mono (fun e a w he => by cases e <;> first | exact rounds_more n a w he | exact he) h
theorem rounds_le {P : Program} {Q : Exit → Act → World → Prop} {c : Code} {n m : Nat} (h : n ≤ m) {a : Act} {w : World} (hr : Code.rounds P c Q n a w) : Code.rounds P c Q m a w := by
  induction h with
  | refl => exact hr
  | step _ ih => exact rounds_more _ _ _ ih
theorem wp_while {P : Program} {Q : Exit → Act → World → Prop} {c : Code} (I : Nat → Act → World → Prop) (m : Nat) {a : Act} {w : World} (h0 : I m a w)
    (round : ∀ m a w, I m a w → c.wp P (Exit.then (fun a' w' => ∃ m', m' < m ∧ I m' a' w') Q) a w) : (Code.loop c).wp P Q a w := by
  have key : ∀ m a w, I m a w → Code.rounds P c Q (m + 1) a w := by
    intro m
    induction m using Nat.strongRecOn with
    | ind m ih =>
      intro a w hI
      rw [rounds_succ]
      refine Code.wp_mono (fun e a w he => ?_) (round m a w hI)
      cases e with
      | normal =>
        obtain ⟨m', hm, h'⟩ := he
        exact rounds_le hm (ih m' hm a w h')
      | _ => exact he
  exact wp_loop_rounds (m + 1) (key m a w h0)
end Go.Proofs.YtefjnfeckenmkaaDoor

namespace Go.Proofs.YtefjnfeckenmkaaDoor
open Go.RowKit Num

/-- number i0 fills block q, which number i1 has read -/
structure GF (w0 : World) (L : List (Nat × TypeId × Array Value)) (i0 i1 j q : Nat) (t : TypeId) (c : Array Value) (g : Nat → Nat) (d : Nat → Bool) (w : World) : Prop where
  held : HA w0 (if d i0 = true then L.set j (q, t, c) else L) w
  seen : d i0 = true → d i1 = true
section
variable {ops : Array Oper} {Q : Exit → Act → World → Prop} {F : (Nat → Nat) → Act} {i i0 i1 j q : Nat} {dst : Option Tmp} {T ty : TypeId} {pos : String} {aft : Array Edge} {gd : Option (Nat × Bool)}
  {w0 : World} {L : List (Nat × TypeId × Array Value)} {t : TypeId} {c : Array Value}
theorem GF.keep {g : Nat → Nat} {d : Nat → Bool} {w w' : World} (h : GF w0 L i0 i1 j q t c g d w) (hi : i ≠ i0) (hb : Below w.heap.size w w') : GF w0 L i0 i1 j q t c g (up d i true) w' :=
  ⟨by rw [up_ne _ _ (Ne.symm hi)]; exact h.held.keep _ _ hb, fun h0 => by
    rw [up_ne _ _ (Ne.symm hi)] at h0
    by_cases hii : i1 = i
    · rw [hii]; exact up_at _ _ _
    · rw [up_ne _ _ hii]; exact h.seen h0⟩
theorem gf_plain {o : Oper} {v : Value} (hi : i ≠ i0) (hw : ∀ g, Region.wanted o (yielded ops (F g).tmps) = true) (hp : ∀ g, (F g).put o.dst v = F g)
    (hr : ∀ g w, (execOp (F g).eval o).run Tryd.prog w = .ok (.value v) w) : OpGhost Tryd.prog .any ops Q (GF w0 L i0 i1 j q t c) F i o :=
  OpGhost.take (v := fun _ => v) hw hp (fun g _ w h _ => ⟨hr g w, h.keep hi (Below.refl _ w)⟩)
/-- a load from another block -/
theorem gf_load2 {x : Operand} {D : TypeDesc} {e : Nat × TypeId × Array Value} (m : Nat) (hjm : j ≠ m) (hm : L[m]? = some e) (hi : i ≠ i0)
    (hw : ∀ g, Region.wanted ⟨dst, .load T x, ty, pos, aft, gd⟩ (yielded ops (F g).tmps) = true) (hp : ∀ g, (F g).put dst (.agg e.2.2) = F g) (hx : ∀ g, (F g).eval x = .pointer (some ⟨e.1, 0, none⟩))
    (hu : Tryd.prog.underlying T = some D) (hd : D.isRow = true) (hz : (Tryd.prog.info? T).map (·.size) = some e.2.2.size) :
    OpGhost Tryd.prog .any ops Q (GF w0 L i0 i1 j q t c) F i ⟨dst, .load T x, ty, pos, aft, gd⟩ :=
  OpGhost.take (v := fun _ => .agg e.2.2) hw hp (fun g d w h _ => by
    have hB : Blk w e.1 e.2.1 e.2.2 := by
      have hH := h.held
      split at hH
      · exact hH.get m (by rw [List.getElem?_set_ne hjm]; exact hm)
      · exact hH.get m hm
    exact ⟨run_load_blk (hx g) hB hu hd hz, h.keep hi (Below.refl _ w)⟩)
theorem gf_call {f : FuncId} {xs : Array Operand} {ats : Array TypeId} {v : Value} (hi : i ≠ i0)
    (hw : ∀ g, Region.wanted ⟨dst, .call { callee := .value (.func f), args := xs, argTypes := ats }, ty, pos, aft, gd⟩ (yielded ops (F g).tmps) = true) (hp : ∀ g, (F g).put dst v = F g)
    (hr : ∀ args w, (callFunc f args).run Tryd.prog w = .ok (.enter f args) w) (args : Array Value) (ha : ∀ g, #[] ++ xs.map (F g).eval ++ #[] = args)
    (hc : ∀ w, Calls Tryd.prog f args w fun e w' => e = .returned v ∧ Below w.heap.size w w') :
    OpGhost Tryd.prog .any ops Q (GF w0 L i0 i1 j q t c) F i ⟨dst, .call { callee := .value (.func f), args := xs, argTypes := ats }, ty, pos, aft, gd⟩ :=
  OpGhost.call (v := fun _ => v) (args := fun _ => args) hw hp (fun g w => by rw [execOp_call_go, ha g]; exact hr _ w) (fun _ _ w hS _ => (hc w).mono fun _ _ h => ⟨h.1, hS.keep hi h.2⟩)
theorem gf_fill {x y : Operand} {c0 : Array Value} (hL : L[j]? = some (q, t, c0)) (hs : c.size = c0.size) (hw : ∀ g, Region.wanted ⟨dst, .store T x y, ty, pos, aft, gd⟩ (yielded ops (F g).tmps) = true) (hp : ∀ g, (F g).put dst undef = F g)
    (hx : ∀ g, (F g).eval x = .pointer (some ⟨q, 0, none⟩)) (hy : ∀ g, (F g).eval y = .agg c) (hz : (Tryd.prog.info? T).map (·.size) = some c.size) (h1 : c.all (·.oneCell') = true) (hi : i1 ≠ i0)
    (he : (aft.any fun e => Region.binds .any e && e.on == i1) = true) :
    OpGhost Tryd.prog .any ops Q (GF w0 L i0 i1 j q t c) F i0 ⟨dst, .store T x y, ty, pos, aft, gd⟩ :=
  OpGhost.skips (W := fun _ w => w.setCells q 0 c.toList) hw hp (fun g d w h hd haft => by
    obtain ⟨m, hm, h3⟩ := Array.any_eq_true.1 he
    rw [Bool.and_eq_true, beq_iff_eq] at h3
    have ha : d i1 = true := by rw [← h3.2]; exact haft _ (Array.getElem_mem hm) h3.1
    have hH := h.held
    rw [hd, if_neg (by decide)] at hH
    exact ⟨run_store_blk (hx g) (hy g) (hH.get j hL) hs hz h1, by rw [up_at, if_pos rfl]; exact hH.fill j hL hs, fun _ => by rw [up_ne _ _ hi]; exact ha⟩)
theorem GF.start {g : Nat → Nat} {d : Nat → Bool} {w : World} (h : HA w0 L w) (hd : d i0 = false) : GF w0 L i0 i1 j q t c g d w := ⟨by rw [hd]; exact h, fun h0 => by rw [hd] at h0; cases h0⟩
end
end Go.Proofs.YtefjnfeckenmkaaDoor
