/-
 Elements as variables; calls as sure operations.
-/
import Derived.Test.YtefjnfeckenmkaaGreatDoorW0
import Derived.Test.YtefjnfeckenmkaaGreatDoorB0
import Derived.Test.YtefjnfeckenmkaaGreatDoorW1
import Derived.Deep.OwnRows
namespace Go.Proofs.YtefjnfeckenmkaaGreatDoor
open Go.RowKit Num
def el (n : Nat) : Array Value := cl .u64 (digs K 4 n)
theorem el_size (n : Nat) : (el n).size = 4 := rfl
theorem info25 : (Tryz.prog.info? 37).map (·.size) = some 4 := by kernel_rfl
theorem one_cl (k : IntKind) (l : List Nat) : (cl k l).all (·.oneCell') = true := all_oneCell_toArray fun v hv => by
 obtain ⟨n, _, rfl⟩ := List.mem_map.1 hv
 rfl
theorem one_el (n : Nat) : (el n).all (·.oneCell') = true := one_cl _ _
theorem run_alloc25 {ρ : Operand → Value} {w : World} {dst : Option Tmp} {ty : TypeId} {pos : String} {aft : Array Edge} {gd : Option (Nat × Bool)} :
  (execOp ρ ⟨dst, .alloc 37, ty, pos, aft, gd⟩).run Tryz.prog w = .ok (.value (.pointer (some ⟨w.heap.size, 0, none⟩))) (w.alloc (.cells (el 0) 37)) := by
 simp only [execOp]
 go_simp
 rfl
theorem sure_call {ops : Array Oper} {Q : Exit → Act → World → Prop} {S : World → Prop} {F : Act} {dst : Option Tmp} {f : FuncId} {xs : Array Operand} {ats : Array TypeId} {ty : TypeId} {pos : String} {aft : Array Edge} {gd : Option (Nat × Bool)} {v : Value}
  (hw : Region.wanted ⟨dst, .call { callee := .value (.func f), args := xs, argTypes := ats }, ty, pos, aft, gd⟩ (yielded ops F.tmps) = true) (hp : F.put dst v = F)
  (hr : ∀ args w, (callFunc f args).run Tryz.prog w = .ok (.enter f args) w) (hk : ∀ w w', S w → Below w.heap.size w w' → S w') (args : Array Value) (ha : #[] ++ xs.map F.eval ++ #[] = args)
  (hc : ∀ w, S w → Calls Tryz.prog f args w fun e w' => e = .returned v ∧ Below w.heap.size w w') :
  OpSure Tryz.prog ops Q S F ⟨dst, .call { callee := .value (.func f), args := xs, argTypes := ats }, ty, pos, aft, gd⟩ := by
 subst ha
 exact OpSure.call hw hp (fun w _ => by rw [execOp_call_go]; exact hr _ w) (fun w hS => (hc w hS).mono fun e w' h => ⟨h.1, hk w w' hS h.2⟩)
theorem enter29 (args : Array Value) (w : World) : (callFunc 47 args).run Tryz.prog w = .ok (.enter 47 args) w := by go_simp
theorem enter37 (args : Array Value) (w : World) : (callFunc 67 args).run Tryz.prog w = .ok (.enter 67 args) w := by go_simp
theorem enter38 (args : Array Value) (w : World) : (callFunc 44 args).run Tryz.prog w = .ok (.enter 44 args) w := by go_simp
theorem enter39 (args : Array Value) (w : World) : (callFunc 68 args).run Tryz.prog w = .ok (.enter 68 args) w := by go_simp
theorem enter40 (args : Array Value) (w : World) : (callFunc 69 args).run Tryz.prog w = .ok (.enter 69 args) w := by go_simp
theorem enter41 (args : Array Value) (w : World) : (callFunc 70 args).run Tryz.prog w = .ok (.enter 70 args) w := by go_simp
theorem enter42 (args : Array Value) (w : World) : (callFunc 71 args).run Tryz.prog w = .ok (.enter 71 args) w := by go_simp
theorem enter43 (args : Array Value) (w : World) : (callFunc 45 args).run Tryz.prog w = .ok (.enter 45 args) w := by go_simp
theorem enter44 (args : Array Value) (w : World) : (callFunc 72 args).run Tryz.prog w = .ok (.enter 72 args) w := by go_simp
theorem enter45 (args : Array Value) (w : World) : (callFunc 73 args).run Tryz.prog w = .ok (.enter 73 args) w := by go_simp
theorem enter46 (args : Array Value) (w : World) : (callFunc 74 args).run Tryz.prog w = .ok (.enter 74 args) w := by go_simp
theorem enter47 (args : Array Value) (w : World) : (callFunc 52 args).run Tryz.prog w = .ok (.enter 52 args) w := by go_simp
theorem enter48 (args : Array Value) (w : World) : (callFunc 53 args).run Tryz.prog w = .ok (.enter 53 args) w := by go_simp
theorem enter49 (args : Array Value) (w : World) : (callFunc 54 args).run Tryz.prog w = .ok (.enter 54 args) w := by go_simp
theorem enter50 (args : Array Value) (w : World) : (callFunc 81 args).run Tryz.prog w = .ok (.enter 81 args) w := by go_simp
theorem enter52 (args : Array Value) (w : World) : (callFunc 79 args).run Tryz.prog w = .ok (.enter 79 args) w := by go_simp
theorem enter53 (args : Array Value) (w : World) : (callFunc 83 args).run Tryz.prog w = .ok (.enter 83 args) w := by go_simp
theorem enter55 (args : Array Value) (w : World) : (callFunc 46 args).run Tryz.prog w = .ok (.enter 46 args) w := by go_simp
theorem enter56 (args : Array Value) (w : World) : (callFunc 48 args).run Tryz.prog w = .ok (.enter 48 args) w := by go_simp
theorem enter57 (args : Array Value) (w : World) : (callFunc 51 args).run Tryz.prog w = .ok (.enter 51 args) w := by go_simp
theorem enter58 (args : Array Value) (w : World) : (callFunc 76 args).run Tryz.prog w = .ok (.enter 76 args) w := by go_simp
theorem enter59 (args : Array Value) (w : World) : (callFunc 75 args).run Tryz.prog w = .ok (.enter 75 args) w := by go_simp
theorem enter60 (args : Array Value) (w : World) : (callFunc 111 args).run Tryz.prog w = .ok (.enter 111 args) w := by go_simp
theorem enter61 (args : Array Value) (w : World) : (callFunc 49 args).run Tryz.prog w = .ok (.enter 49 args) w := by go_simp
theorem enter62 (args : Array Value) (w : World) : (callFunc 50 args).run Tryz.prog w = .ok (.enter 50 args) w := by go_simp
theorem enter67 (args : Array Value) (w : World) : (callFunc 78 args).run Tryz.prog w = .ok (.enter 78 args) w := by go_simp
theorem enter68 (args : Array Value) (w : World) : (callFunc 110 args).run Tryz.prog w = .ok (.enter 110 args) w := by go_simp
theorem enter69 (args : Array Value) (w : World) : (callFunc 109 args).run Tryz.prog w = .ok (.enter 109 args) w := by go_simp
theorem enter70 (args : Array Value) (w : World) : (callFunc 77 args).run Tryz.prog w = .ok (.enter 77 args) w := by go_simp
theorem enter71 (args : Array Value) (w : World) : (callFunc 65 args).run Tryz.prog w = .ok (.enter 65 args) w := by go_simp
theorem enter72 (args : Array Value) (w : World) : (callFunc 56 args).run Tryz.prog w = .ok (.enter 56 args) w := by go_simp
theorem enter73 (args : Array Value) (w : World) : (callFunc 58 args).run Tryz.prog w = .ok (.enter 58 args) w := by go_simp
theorem enter74 (args : Array Value) (w : World) : (callFunc 55 args).run Tryz.prog w = .ok (.enter 55 args) w := by go_simp
theorem enter75 (args : Array Value) (w : World) : (callFunc 57 args).run Tryz.prog w = .ok (.enter 57 args) w := by go_simp
theorem enter76 (args : Array Value) (w : World) : (callFunc 59 args).run Tryz.prog w = .ok (.enter 59 args) w := by go_simp
theorem enter78 (args : Array Value) (w : World) : (callFunc 93 args).run Tryz.prog w = .ok (.enter 93 args) w := by go_simp
theorem enter79 (args : Array Value) (w : World) : (callFunc 88 args).run Tryz.prog w = .ok (.enter 88 args) w := by go_simp
theorem enter80 (args : Array Value) (w : World) : (callFunc 90 args).run Tryz.prog w = .ok (.enter 90 args) w := by go_simp
theorem enter81 (args : Array Value) (w : World) : (callFunc 94 args).run Tryz.prog w = .ok (.enter 94 args) w := by go_simp
theorem enter82 (args : Array Value) (w : World) : (callFunc 104 args).run Tryz.prog w = .ok (.enter 104 args) w := by go_simp
theorem enter83 (args : Array Value) (w : World) : (callFunc 105 args).run Tryz.prog w = .ok (.enter 105 args) w := by go_simp
theorem enter84 (args : Array Value) (w : World) : (callFunc 106 args).run Tryz.prog w = .ok (.enter 106 args) w := by go_simp
theorem enter85 (args : Array Value) (w : World) : (callFunc 107 args).run Tryz.prog w = .ok (.enter 107 args) w := by go_simp
theorem enter86 (args : Array Value) (w : World) : (callFunc 108 args).run Tryz.prog w = .ok (.enter 108 args) w := by go_simp
theorem enter87 (args : Array Value) (w : World) : (callFunc 89 args).run Tryz.prog w = .ok (.enter 89 args) w := by go_simp
theorem enter88 (args : Array Value) (w : World) : (callFunc 119 args).run Tryz.prog w = .ok (.enter 119 args) w := by go_simp
theorem enter89 (args : Array Value) (w : World) : (callFunc 120 args).run Tryz.prog w = .ok (.enter 120 args) w := by go_simp
theorem enter90 (args : Array Value) (w : World) : (callFunc 113 args).run Tryz.prog w = .ok (.enter 113 args) w := by go_simp
theorem enter91 (args : Array Value) (w : World) : (callFunc 91 args).run Tryz.prog w = .ok (.enter 91 args) w := by go_simp
theorem enter92 (args : Array Value) (w : World) : (callFunc 92 args).run Tryz.prog w = .ok (.enter 92 args) w := by go_simp
theorem enter93 (args : Array Value) (w : World) : (callFunc 132 args).run Tryz.prog w = .ok (.enter 132 args) w := by go_simp
theorem enter96 (args : Array Value) (w : World) : (callFunc 133 args).run Tryz.prog w = .ok (.enter 133 args) w := by go_simp
theorem enter97 (args : Array Value) (w : World) : (callFunc 112 args).run Tryz.prog w = .ok (.enter 112 args) w := by go_simp
theorem enter98 (args : Array Value) (w : World) : (callFunc 131 args).run Tryz.prog w = .ok (.enter 131 args) w := by go_simp
theorem enter99 (args : Array Value) (w : World) : (callFunc 130 args).run Tryz.prog w = .ok (.enter 130 args) w := by go_simp
theorem enter100 (args : Array Value) (w : World) : (callFunc 66 args).run Tryz.prog w = .ok (.enter 66 args) w := by go_simp
theorem enter103 (args : Array Value) (w : World) : (callFunc 97 args).run Tryz.prog w = .ok (.enter 97 args) w := by go_simp
theorem enter104 (args : Array Value) (w : World) : (callFunc 98 args).run Tryz.prog w = .ok (.enter 98 args) w := by go_simp
theorem enter105 (args : Array Value) (w : World) : (callFunc 99 args).run Tryz.prog w = .ok (.enter 99 args) w := by go_simp
theorem enter112 (args : Array Value) (w : World) : (callFunc 127 args).run Tryz.prog w = .ok (.enter 127 args) w := by go_simp
/-! whole loads, new variables and their filling, words without world, in a region that makes variables -/
section
variable {ops : Array Oper} {Q : Exit → Act → World → Prop} {F : (Nat → Nat) → Act} {md : Region.Mode} {i : Nat} {dst : Option Tmp} {ty ty' : TypeId} {pos : String} {aft : Array Edge} {gd : Option (Nat × Bool)}
 {w0 : World} {L : List (Nat × TypeId × Array Value)} {B : Nat} {k a0 t0 : Nat} {t : TypeId} {z : Array Value} {val : Nat → Array Value}
theorem ghost_load {x : Operand} {D : TypeDesc} {e : Nat × TypeId × Array Value} (j : Nat) (hj : L[j]? = some e) 
   
  (hu : Tryz.prog.underlying ty = some D) (hd : D.isRow = true) (hz : (Tryz.prog.info? ty).map (·.size) = some e.2.2.size) (hi : ∀ m, m < k → i ≠ a0 + m ∧ i ≠ t0 + m := by decide) (hw : ∀ g, Region.wanted ⟨dst, .load ty x, ty', pos, aft, gd⟩ (yielded ops (F g).tmps) = true := by intro _; kernel_rfl) (hp : ∀ g, (F g).put dst (.agg e.2.2) = F g := by intro _; kernel_rfl) (hx : ∀ g, (F g).eval x = .pointer (some ⟨e.1, 0, none⟩) := by intro _; kernel_rfl) :
  OpGhost Tryz.prog md ops Q (GS w0 L B k a0 t0 t z val) F i ⟨dst, .load ty x, ty', pos, aft, gd⟩ :=
 OpGhost.take (v := fun _ => .agg e.2.2) hw hp (fun g _ _ h _ => ⟨run_load_blk (hx := (hx g)) (h.held.get j hj) hu hd hz, h.load hi⟩)
theorem ghost_plain {o : Oper} {v : Value}   
     (hi : ∀ m, m < k → i ≠ a0 + m ∧ i ≠ t0 + m := by decide) (hw : ∀ g, Region.wanted o (yielded ops (F g).tmps) = true := by intro _; kernel_rfl) (hp : ∀ g, (F g).put o.dst v = F g := by intro _; kernel_rfl) (hr : ∀ g w, (execOp (F g).eval o).run Tryz.prog w = .ok (.value v) w := by intro _ _; kernel_rfl) : OpGhost Tryz.prog md ops Q (GS w0 L B k a0 t0 t z val) F i o :=
  OpGhost.take (v := fun _ => v) hw hp (fun g _ w h _ => ⟨hr g w, h.load hi⟩)
theorem ghost_call {f : FuncId} {xs : Array Operand} {ats : Array TypeId} {v : Value} 
  
  (hr : ∀ args w, (callFunc f args).run Tryz.prog w = .ok (.enter f args) w) (args : Array Value) 
  (hc : ∀ w, HA w0 L w → Calls Tryz.prog f args w fun e w' => e = .returned v ∧ Below w.heap.size w w') (hi : ∀ m, m < k → i ≠ a0 + m ∧ i ≠ t0 + m := by decide) (hw : ∀ g, Region.wanted ⟨dst, .call { callee := .value (.func f), args := xs, argTypes := ats }, ty, pos, aft, gd⟩ (yielded ops (F g).tmps) = true := by intro _; kernel_rfl) (hp : ∀ g, (F g).put dst v = F g := by intro _; kernel_rfl) (ha : ∀ g, #[] ++ xs.map (F g).eval ++ #[] = args := by intro _; kernel_rfl) :
  OpGhost Tryz.prog md ops Q (GS w0 L B k a0 t0 t z val) F i ⟨dst, .call { callee := .value (.func f), args := xs, argTypes := ats }, ty, pos, aft, gd⟩ :=
 OpGhost.call (v := fun _ => v) (args := fun _ => args) hw hp (fun g w => by rw [execOp_call_go, ha g]; exact hr _ w) (fun _ _ w hS _ => (hc w hS.held).mono fun _ _ h => ⟨h.1, hS.call hi h.2⟩)
theorem ghost_make (j : Nat)  (hi : i = a0 + j)
  
  (hr : ∀ (ρ : Operand → Value) (w : World), (execOp ρ ⟨dst, .alloc ty, ty', pos, aft, gd⟩).run Tryz.prog w = .ok (.value (.pointer (some ⟨w.heap.size, 0, none⟩))) (w.alloc (.cells z ty))) (hj : j < k := by decide) (hw : ∀ g, Region.wanted ⟨dst, .alloc ty, ty', pos, aft, gd⟩ (yielded ops (F g).tmps) = true := by intro _; kernel_rfl) (hp : ∀ g (m : Nat), (F g).put dst (.pointer (some ⟨m, 0, none⟩)) = F (up g i m) := by intro _ _; kernel_rfl) :
  OpGhost Tryz.prog md ops Q (GS w0 L B k a0 t0 ty z val) F i ⟨dst, .alloc ty, ty', pos, aft, gd⟩ :=
 OpGhost.act (v := fun _ w => .pointer (some ⟨w.heap.size, 0, none⟩)) (n := fun _ w => w.heap.size) (W := fun _ w => w.alloc (.cells z ty)) hw (fun g w => hp g w.heap.size) (fun _ _ w h hd _ => ⟨hr _ w, h.make hj hi hd⟩)
theorem ghost_fill {x y : Operand} (j : Nat)  (hi : i = t0 + j)
     
      (hz : (Tryz.prog.info? ty).map (·.size) = some (val j).size) (h1 : (val j).all (·.oneCell') = true)
     (hj : j < k := by decide) (hw : ∀ g, Region.wanted ⟨dst, .store ty x y, ty', pos, aft, gd⟩ (yielded ops (F g).tmps) = true := by intro _; kernel_rfl) (hp : ∀ g, (F g).put dst undef = F g := by intro _; kernel_rfl) (hx : ∀ g, (F g).eval x = .pointer (some ⟨g (a0 + j), 0, none⟩) := by intro _; kernel_rfl) (hy : ∀ g, (F g).eval y = .agg (val j) := by intro _; kernel_rfl) (he : (aft.any fun e => Region.binds .any e && e.on == a0 + j) = true := by kernel_rfl) :
    OpGhost Tryz.prog .any ops Q (GS w0 L B k a0 t0 ty z val) F i ⟨dst, .store ty x y, ty', pos, aft, gd⟩ :=
  OpGhost.skips (W := fun g w => w.setCells (g (a0 + j)) 0 (val j).toList) hw hp (fun g d w h hd haft => by
    obtain ⟨m, hm, h3⟩ := Array.any_eq_true.1 he
    rw [Bool.and_eq_true, beq_iff_eq] at h3
    have ha : d (a0 + j) = true := by rw [← h3.2]; exact haft _ (Array.getElem_mem hm) h3.1
    have hb := (h.new.own j hj ha).2
    have hT : d (t0 + j) = false := hi ▸ hd
    rw [hT, if_neg (by decide)] at hb
    exact ⟨run_store_blk (hx g) (hy g) hb (h.siz j hj) hz h1, h.fill hj hi hd ha⟩)
end
section
variable {ops : Array Oper} {Q : Exit → Act → World → Prop} {F : (Nat → Nat) → Act} {md : Region.Mode} {i : Nat} {dst : Option Tmp} {ty ty' : TypeId} {pos : String} {aft : Array Edge} {gd : Option (Nat × Bool)}
 {w0 : World} {L M : List (Nat × TypeId × Array Value)}
theorem gm_load {x : Operand} {D : TypeDesc} {e : Nat × TypeId × Array Value} (j : Nat) (hj : L[j]? = some e) 
   
  (hu : Tryz.prog.underlying ty = some D) (hd : D.isRow = true) (hz : (Tryz.prog.info? ty).map (·.size) = some e.2.2.size) (hi : M.all (fun x => x.1 != i) = true := by kernel_rfl) (hw : ∀ g, Region.wanted ⟨dst, .load ty x, ty', pos, aft, gd⟩ (yielded ops (F g).tmps) = true := by intro _; kernel_rfl) (hp : ∀ g, (F g).put dst (.agg e.2.2) = F g := by intro _; kernel_rfl) (hx : ∀ g, (F g).eval x = .pointer (some ⟨e.1, 0, none⟩) := by intro _; kernel_rfl) :
  OpGhost Tryz.prog md ops Q (GM w0 L M) F i ⟨dst, .load ty x, ty', pos, aft, gd⟩ :=
 OpGhost.take (v := fun _ => .agg e.2.2) hw hp (fun g _ w h _ => ⟨run_load_blk (hx := (hx g)) (h.held.get j hj) hu hd hz, h.call hi (Below.refl _ w)⟩)
theorem gm_plain {o : Oper} {v : (Nat → Nat) → Value}   
  (hr : ∀ g w, (execOp (F g).eval o).run Tryz.prog w = .ok (.value (v g)) w) (hi : M.all (fun x => x.1 != i) = true := by kernel_rfl) (hw : ∀ g, Region.wanted o (yielded ops (F g).tmps) = true := by intro _; kernel_rfl) (hp : ∀ g, (F g).put o.dst (v g) = F g := by intro _; kernel_rfl) : OpGhost Tryz.prog md ops Q (GM w0 L M) F i o :=
 OpGhost.take (v := v) hw hp (fun g _ w h _ => ⟨hr g w, h.call hi (Below.refl _ w)⟩)
theorem gm_make {o : Oper} {t : TypeId} {c : Array Value} (v : Nat → Value)  (hc : ∀ x ∈ M, x.1 = i → x.2.2 = c) 
     (hr : ∀ g w, (execOp (F g).eval o).run Tryz.prog w = .ok (.value (v w.heap.size)) (w.alloc (.cells c t))) (hi : M.all (fun x => x.1 != i || (decide (x.2.1 = t))) = true := by kernel_rfl) (hw : ∀ g, Region.wanted o (yielded ops (F g).tmps) = true := by intro _; kernel_rfl) (hp : ∀ g (m : Nat), (F g).put o.dst (v m) = F (up g i m) := by intro _ _; kernel_rfl) : OpGhost Tryz.prog md ops Q (GM w0 L M) F i o :=
  OpGhost.act (v := fun _ w => v w.heap.size) (n := fun _ w => w.heap.size) (W := fun _ w => w.alloc (.cells c t)) hw (fun g w => hp g w.heap.size) (fun g _ w h _ _ => ⟨hr g w, h.make hi hc⟩)
end
theorem run_box25 {ρ : Operand → Value} {x : Operand} {c : Array Value} {w : World} {dst : Option Tmp} {ty : TypeId} {pos : String} {aft : Array Edge} {gd : Option (Nat × Bool)}  (hx : ρ x = .agg c := by kernel_rfl) :
  (execOp ρ ⟨dst, .box 37 x, ty, pos, aft, gd⟩).run Tryz.prog w = .ok (.value (.pointer (some ⟨w.heap.size, 0, none⟩))) (w.alloc (.cells c 37)) := by
 simp only [execOp, hx]
 go_simp
theorem zsc {ops : Array Oper} {Q : Exit → Act → World → Prop} {S : World → Prop} {F : Act} {os : List Oper} {dst : Option Tmp} {f : FuncId} {xs : Array Operand} {ats : Array TypeId} {ty : TypeId} {pos : String} {aft : Array Edge} {gd : Option (Nat × Bool)} {v : Value} {args : Array Value}
  (hr : ∀ args w, (callFunc f args).run Tryz.prog w = .ok (.enter f args) w) (hk : ∀ w w', S w → Below w.heap.size w w' → S w') (hc : ∀ w, S w → Calls Tryz.prog f args w fun e w' => e = .returned v ∧ Below w.heap.size w w') (hs : AllSure Tryz.prog ops Q S F os)
  (hw : Region.wanted ⟨dst, .call { callee := .value (.func f), args := xs, argTypes := ats }, ty, pos, aft, gd⟩ (yielded ops F.tmps) = true := by kernel_rfl) (hp : F.put dst v = F := by kernel_rfl) (ha : #[] ++ xs.map F.eval ++ #[] = args := by kernel_rfl) :
  AllSure Tryz.prog ops Q S F (⟨dst, .call { callee := .value (.func f), args := xs, argTypes := ats }, ty, pos, aft, gd⟩ :: os) := .cons (sure_call hw hp hr hk args ha hc) hs
end Go.Proofs.YtefjnfeckenmkaaGreatDoor

namespace Go.Proofs.YtefjnfeckenmkaaGreatDoor
open Go.RowKit Num
theorem Same_yes (a b : Nat) (ha : a < P) (hb : b < P) (h : a = b) (w : World) :
  Calls Tryz.prog 69 #[arr a, arr b] w fun e w' => e = .returned (.bool true) ∧ Below w.heap.size w w' := by
 have h1 := Same_any a b (Nat.lt_trans ha P_lt) (Nat.lt_trans hb P_lt) w
 rw [decide_eq_true h] at h1
 exact h1
theorem Same_no (a b : Nat) (ha : a < P) (hb : b < P) (h : a ≠ b) (w : World) :
  Calls Tryz.prog 69 #[arr a, arr b] w fun e w' => e = .returned (.bool false) ∧ Below w.heap.size w w' := by
 have h1 := Same_any a b (Nat.lt_trans ha P_lt) (Nat.lt_trans hb P_lt) w
 rw [decide_eq_false h] at h1
 exact h1
theorem Odd_yes (a : Nat) (h : a % 2 = 1) (w : World) :
  Calls Tryz.prog 54 #[arr a] w fun e w' => e = .returned (.bool true) ∧ Below w.heap.size w w' := by
 have h1 := Odd_any a w
 rw [decide_eq_true h] at h1
 exact h1
theorem Odd_no (a : Nat) (h : a % 2 = 0) (w : World) :
  Calls Tryz.prog 54 #[arr a] w fun e w' => e = .returned (.bool false) ∧ Below w.heap.size w w' := by
 have h1 := Odd_any a w
 rw [decide_eq_false (by omega)] at h1
 exact h1
theorem run_eqb {ρ : Operand → Value} {x y : Operand} (p q : Bool) {w : World} {dst : Option Tmp} {ty : TypeId} {pos : String} {aft : Array Edge} {gd : Option (Nat × Bool)} (hx : ρ x = .bool p) (hy : ρ y = .bool q) :
  (execOp ρ ⟨dst, .binOp .eql 4 x y 4, ty, pos, aft, gd⟩).run Tryz.prog w = .ok (.value (.bool (p == q))) w := by
 simp only [execOp, hx, hy]
 cases p <;> cases q <;> go_simp
def zr (n : Nat) : Array Value := madeCells #[.int .u8 0] n
theorem run_make (n : Nat) (hn : n ≤ 1000) (w : World) : (Instr.makeSlice 71 (.int .i64 (n : Int)) (.int .i64 (n : Int))).run Tryz.prog w = .ok (.slice (some ⟨w.heap.size, 0, none⟩) n n) (w.alloc (.cells (zr n) 5)) :=
 run_make_row' 71 5 (.int .u8 0) 1 Tryz.underlying71 info5 rfl .i64 .i64 n (by omega) (by omega) w
section
variable {ρ : Operand → Value} {x y : Operand} {w : World} {dst : Option Tmp} {T T2 ty : TypeId} {pos : String} {aft : Array Edge} {gd : Option (Nat × Bool)}
theorem run_mk (n : Nat)    (hn : n ≤ 1000 := by decide) (hx : ρ x = .int .i64 (n : Int) := by kernel_rfl) (hy : ρ y = .int .i64 (n : Int) := by kernel_rfl) :
  (execOp ρ ⟨dst, .makeSlice 71 x y, ty, pos, aft, gd⟩).run Tryz.prog w = .ok (.value (.slice (some ⟨w.heap.size, 0, none⟩) n n)) (w.alloc (.cells (zr n) 5)) := by
 simp only [execOp, hx, hy, Sem.run_bind, run_make n hn w, Result.andThen_ok, Sem.run_pure]
theorem run_text {q n : Nat} {c : Array Value} (l : List UInt8) (hx : ρ x = .slice (some ⟨q, 0, none⟩) n n) (h : Blk w q 5 c) (hc : c = (cs l).toArray) (hn : n = l.length) :
  (execOp ρ ⟨dst, .convert 71 9 x, ty, pos, aft, gd⟩).run Tryz.prog w = .ok (.value (.string ⟨l.toArray⟩)) w := by
 subst hc hn
 have hcell : ∀ j (hj : j < l.length), w.cell? ((⟨q, 0, none⟩ : Addr).add j) = some (.int .u8 ((l[j]).toNat : Int)) := fun j hj => by
  have hadd : (⟨q, 0, none⟩ : Addr).add j = ⟨q, j, none⟩ := by unfold Addr.add; split <;> simp_all
  rw [hadd, h.cell j]
  simp [cs, List.getElem?_eq_getElem hj]
 have := run_convert_bytes_back (P := Tryz.prog) w 71 9 5 ⟨q, 0, none⟩ l.length l Tryz.underlying71 Tryz.underlying5 Tryz.underlying9 hcell
 simp only [execOp, hx, Sem.run_bind, this, Result.andThen_ok, Sem.run_pure]
end
def ff (k : Nat) : Array Value := (List.replicate k (iN .u8 255) ++ List.replicate (32 - k) (iN .u8 0)).toArray
theorem ff_put (k : Nat) (hk : k < 32) : (ff k).setIfInBounds k (.int .u8 255) = ff (k + 1) := by
 unfold ff
 rw [List.setIfInBounds_toArray]
 congr 1
 rw [List.set_append_right _ _ (by simp)]
 have e : 32 - k = (32 - (k + 1)) + 1 := by omega
 rw [List.length_replicate, Nat.sub_self, e, List.replicate_succ, List.set_cons_zero, List.replicate_succ', List.append_assoc]
 rfl
theorem ff_size (k : Nat) (hk : k ≤ 32) : (ff k).size = 32 := by simp [ff]; omega
def endsL (f l : UInt8) : List UInt8 := f :: (List.replicate 30 255 ++ [l])
theorem ff_ends (f l : UInt8) : ((ff 32).setIfInBounds 0 (iN .u8 f.toNat)).setIfInBounds 31 (iN .u8 l.toNat) = (cs (endsL f l)).toArray := by kernel_rfl
theorem cs_set (l : List UInt8) (i : Nat) (z : UInt8) : (cs l).toArray.setIfInBounds i (.int .u8 (z.toNat : Int)) = (cs (l.set i z)).toArray := by
 simp [cs, List.map_set]
theorem bytesOf_size (n : Nat) : (bytesOf n).size = 32 := by
 show (les 32 n).toArray.size = 32
 simp [les_length]
theorem bts_bytesOf (n : Nat) : bts (bytesOf n) = digs 256 32 n := by
 unfold bts bytesOf les
 show List.map _ (List.map UInt8.ofNat (digs 256 32 n)).toArray.toList = _
 rw [List.toList_toArray, List.map_map]
 have : ∀ x ∈ digs 256 32 n, ((fun u : UInt8 => u.toNat) ∘ UInt8.ofNat) x = id x := fun x hx => by
  have := digs_lt 256 (by decide) 32 n x hx
  show (UInt8.ofNat x).toNat = x
  rw [UInt8.toNat_ofNat']; omega
 rw [List.map_congr_left this, List.map_id]
theorem bytesOf_num (s : ByteArray) (h : s.size = 32) : bytesOf (numS s) = s := by
 have h1 : digs 256 32 (numS s) = bts s := digs_num 256 (bts s) (bts_lt s) 32 (by rw [bts_length, h])
 unfold bytesOf les
 rw [h1]
 unfold bts
 rw [List.map_map]
 have : ((fun u : UInt8 => UInt8.ofNat u.toNat)) = id := by funext u; simp
 show (⟨(List.map (fun u : UInt8 => UInt8.ofNat u.toNat) s.data.toList).toArray⟩ : ByteArray) = s
 rw [this, List.map_id]
end Go.Proofs.YtefjnfeckenmkaaGreatDoor

namespace Go.Proofs.YtefjnfeckenmkaaGreatDoor
open Go.RowKit Num
def rl (n : Nat) : Array Value := cl .u32 (digs 65536 16 n)
def rarr (n : Nat) : Value := .agg (rl n)
theorem rl_size (n : Nat) : (rl n).size = 16 := rfl
theorem rl_sz (n m : Nat) : (rl n).size = (rl m).size := rfl
theorem one_rl (n : Nat) : (rl n).all (·.oneCell') = true := one_cl _ _
theorem info32 : (Tryz.prog.info? 51).map (·.size) = some 16 := by kernel_rfl
theorem info_rl (n : Nat) : (Tryz.prog.info? 51).map (·.size) = some (rl n).size := info32
theorem rl_get (n j : Nat) (hj : j < 16) : (rl n)[j]? = some (iN .u32 (n / 65536 ^ j % 65536)) := by
 unfold rl
 rw [cl_get .u32 _ j (by rw [digs_length]; exact hj), digs_get]
 rfl
theorem rl_put (n j x : Nat) (hn : n < 65536 ^ j) (hj : j < 16) (hx : x < 65536) : (rl n).setIfInBounds j (.int .u32 (x : Int)) = rl (n + x * 65536 ^ j) := by
 unfold rl
 rw [← digs_push 65536 16 n j x hn hj hx]
 simp [cl, List.map_set]
theorem run_alloc32 {ρ : Operand → Value} {w : World} {dst : Option Tmp} {ty : TypeId} {pos : String} {aft : Array Edge} {gd : Option (Nat × Bool)} :
  (execOp ρ ⟨dst, .alloc 51, ty, pos, aft, gd⟩).run Tryz.prog w = .ok (.value (.pointer (some ⟨w.heap.size, 0, none⟩))) (w.alloc (.cells (rl 0) 51)) := by
 simp only [execOp]
 go_simp
 rfl
theorem run_box32 {ρ : Operand → Value} {x : Operand} {c : Array Value} {w : World} {dst : Option Tmp} {ty : TypeId} {pos : String} {aft : Array Edge} {gd : Option (Nat × Bool)}  (hx : ρ x = .agg c := by kernel_rfl) :
  (execOp ρ ⟨dst, .box 51 x, ty, pos, aft, gd⟩).run Tryz.prog w = .ok (.value (.pointer (some ⟨w.heap.size, 0, none⟩))) (w.alloc (.cells c 51)) := by
 simp only [execOp, hx]
 go_simp
theorem run_build0 {ρ : Operand → Value} {w : World} {dst : Option Tmp} {ty : TypeId} {pos : String} {aft : Array Edge} {gd : Option (Nat × Bool)} :
  (execOp ρ ⟨dst, .build 51 #[], ty, pos, aft, gd⟩).run Tryz.prog w = .ok (.value (rarr 0)) w := by
 simp only [execOp]
 go_simp
 rfl
theorem run_build2 {ρ : Operand → Value} {x y : Operand} {a b : Nat} {w : World} {dst : Option Tmp} {ty : TypeId} {pos : String} {aft : Array Edge} {gd : Option (Nat × Bool)} (hx : ρ x = iN .u32 a) (hy : ρ y = iN .u32 b) (ha : a < 65536) (hb : b < 65536) :
  (execOp ρ ⟨dst, .build 51 #[(0, x), (1, y)], ty, pos, aft, gd⟩).run Tryz.prog w = .ok (.value (rarr (a + b * 65536))) w := by
 have e : rarr (a + b * 65536) = .agg #[iN .u32 a, iN .u32 b, iN .u32 0, iN .u32 0, iN .u32 0, iN .u32 0, iN .u32 0, iN .u32 0, iN .u32 0, iN .u32 0, iN .u32 0, iN .u32 0, iN .u32 0, iN .u32 0, iN .u32 0, iN .u32 0] := by
  have h : digs 65536 16 (a + b * 65536) = [a, b, 0, 0, 0, 0, 0, 0, 0, 0, 0, 0, 0, 0, 0, 0] := by
   have : a + b * 65536 = num 65536 [a, b, 0, 0, 0, 0, 0, 0, 0, 0, 0, 0, 0, 0, 0, 0] := by simp [num]; omega
   rw [this]
   refine digs_num 65536 _ (fun x hx => ?_) 16 rfl
   simp at hx
   omega
  unfold rarr rl
  rw [h]
  rfl
 rw [e]
 simp only [execOp, iN] at hx hy ⊢
 simp only [Array.map]
 go_simp
theorem run_len {ρ : Operand → Value} {x : Operand} {s : ByteArray} {w : World} {dst : Option Tmp} {ty : TypeId} {pos : String} {aft : Array Edge} {gd : Option (Nat × Bool)}  (hx : ρ x = .string s := by kernel_rfl) :
  (execOp ρ ⟨dst, .call { callee := .builtin .len, args := #[x], argTypes := #[9] }, ty, pos, aft, gd⟩).run Tryz.prog w = .ok (.value (iN .i64 s.size)) w := by
 simp only [execOp, iN]
 go_simp
theorem run_geq0 {ρ : Operand → Value} {x y : Operand} {w : World} {dst : Option Tmp} {T T2 ty : TypeId} {pos : String} {aft : Array Edge} {gd : Option (Nat × Bool)} {P : Program} {k : IntKind} {a b : Int}   (t : Bool) (ht : decide (b ≤ a) = t) (hx : ρ x = .int k a := by kernel_rfl) (hy : ρ y = .int k b := by kernel_rfl) :
  (execOp ρ ⟨dst, .binOp .geq T x y T2, ty, pos, aft, gd⟩).run P w = .ok (.value (.bool t)) w := by
 subst ht
 simp only [execOp, hx, hy]
 simp [binOp, go_sem]
def dnv : Nat → Value
 | 0 => .int .i64 (-1)
 | j + 1 => iN .i64 j
theorem run_dec {ρ : Operand → Value} {x y : Operand} {w : World} {dst : Option Tmp} {T T2 ty : TypeId} {pos : String} {aft : Array Edge} {gd : Option (Nat × Bool)} {P : Program} {j : Nat} (hj : j < 1000)   (hx : ρ x = iN .i64 j := by kernel_rfl) (hy : ρ y = iN .i64 1 := by kernel_rfl) :
  (execOp ρ ⟨dst, .binOp .sub T x y T2, ty, pos, aft, gd⟩).run P w = .ok (.value (dnv j)) w := by
 cases j with
 | zero =>
  simp only [execOp, hx, hy, iN, dnv]
  simp [binOp, go_sem, IntKind.wrap, IntKind.bits, IntKind.signed]
 | succ j =>
  have h := run_sub (ρ := ρ) (x := x) (y := y) (w := w) (dst := dst) (T := T) (T2 := T2) (ty := ty) (pos := pos) (aft := aft) (gd := gd) (P := P) (k := .i64) (a := j + 1) (b := 1) (hx := hx) (hy := hy) (by omega) (by simp only [top]; omega)
  exact h
theorem run_conv8 {ρ : Operand → Value} {x : Operand} {a : Nat} {w : World} {dst : Option Tmp} {T T2 ty : TypeId} {pos : String} {aft : Array Edge} {gd : Option (Nat × Bool)} {P : Program} {k : IntKind} (hT : P.underlying T = some (.int k)) (hT2 : P.underlying T2 = some (.int .u8)) (hx : ρ x = iN k a) :
  (execOp ρ ⟨dst, .convert T T2 x, ty, pos, aft, gd⟩).run P w = .ok (.value (iN .u8 (a % 256))) w := by
 simp only [execOp, hx, iN]
 have h : IntKind.u8.wrap (a : Int) = ((a % 256 : Nat) : Int) := by rw [IntKind.wrap_u8']; omega
 simpa [go_sem, hT, hT2] using h
theorem prime_grow (k : Nat) : 65536 ^ k - 1 + 65535 * 65536 ^ k = 65536 ^ (k + 1) - 1 := by
 have h : 0 < 65536 ^ k := Nat.pow_pos (by decide)
 rw [Nat.pow_succ]
 omega
theorem prime_cells : ((rl (65536 ^ 16 - 1)).setIfInBounds 0 (iN .u32 65517)).setIfInBounds 15 (iN .u32 32767) = rl P := by kernel_rfl
def GP (w0 : World) (L : List (Nat × TypeId × Array Value)) (i0 j q : Nat) (t : TypeId) (c : Array Value) (_ : Nat → Nat) (d : Nat → Bool) (w : World) : Prop := HA w0 (if d i0 = true then L.set j (q, t, c) else L) w
section
variable {ops : Array Oper} {Q : Exit → Act → World → Prop} {F : (Nat → Nat) → Act} {md : Region.Mode} {i i0 j q : Nat} {dst : Option Tmp} {T ty : TypeId} {pos : String} {aft : Array Edge} {gd : Option (Nat × Bool)}
 {w0 : World} {L : List (Nat × TypeId × Array Value)} {t : TypeId} {c : Array Value}
theorem GP.keep {g : Nat → Nat} {d : Nat → Bool} {w : World} (h : GP w0 L i0 j q t c g d w) (hi : i ≠ i0) : GP w0 L i0 j q t c g (up d i true) w := by
 unfold GP
 rw [up_ne _ _ (Ne.symm hi)]
 exact h
theorem GP.get {g : Nat → Nat} {d : Nat → Bool} {w : World} (h : GP w0 L i0 j q t c g d w) (m : Nat) (hm : j ≠ m) {x : Nat × TypeId × Array Value} (hx : L[m]? = some x) : Blk w x.1 x.2.1 x.2.2 := by
 unfold GP at h
 split at h
 ·exact h.get m (by rw [List.getElem?_set_ne hm]; exact hx)
 ·exact h.get m hx
theorem gp_plain {o : Oper} {v : Value}   
  (hr : ∀ g w, (execOp (F g).eval o).run Tryz.prog w = .ok (.value v) w) (hi : i ≠ i0 := by decide) (hw : ∀ g, Region.wanted o (yielded ops (F g).tmps) = true := by intro _; kernel_rfl) (hp : ∀ g, (F g).put o.dst v = F g := by intro _; kernel_rfl) : OpGhost Tryz.prog md ops Q (GP w0 L i0 j q t c) F i o :=
 OpGhost.take (v := fun _ => v) hw hp (fun g _ w h _ => ⟨hr g w, h.keep hi⟩)
theorem gp_cell {x : Operand} {v : Value} {e : Nat × TypeId × Array Value} (m : Nat)  (hx : L[m]? = some e)  (off : Nat) (hv : e.2.2[off]? = some v) (hg : ∀ w, (isAgg T).run Tryz.prog w = .ok false w)  
     (hm : j ≠ m := by decide) (hi : i ≠ i0 := by decide) (hw : ∀ g, Region.wanted ⟨dst, .load T x, ty, pos, aft, gd⟩ (yielded ops (F g).tmps) = true := by intro _; kernel_rfl) (hp : ∀ g, (F g).put dst v = F g := by intro _; kernel_rfl) (ha : ∀ g, (F g).eval x = .pointer (some ⟨e.1, off, none⟩) := by intro _; kernel_rfl) : OpGhost Tryz.prog md ops Q (GP w0 L i0 j q t c) F i ⟨dst, .load T x, ty, pos, aft, gd⟩ :=
  OpGhost.take (v := fun _ => v) hw hp (fun g _ _ h _ => ⟨run_load1 hg (hx := (ha g)) (((h.get m hm hx).cell off).trans hv), h.keep hi⟩)
theorem gp_put {x y : Operand} {k : IntKind} {z : Int} {c0 : Array Value} {off : Nat} (hL : L[j]? = some (q, t, c0)) (hoff : off < c0.size) (hc : c0.setIfInBounds off (.int k z) = c) (hs : ∀ w, (sizeOf T).run Tryz.prog w = .ok 1 w)
        (hw : ∀ g, Region.wanted ⟨dst, .store T x y, ty, pos, aft, gd⟩ (yielded ops (F g).tmps) = true := by intro _; kernel_rfl) (hp : ∀ g, (F g).put dst undef = F g := by intro _; kernel_rfl) (hx : ∀ g, (F g).eval x = .pointer (some ⟨q, off, none⟩) := by intro _; kernel_rfl) (hy : ∀ g, (F g).eval y = .int k z := by intro _; kernel_rfl) :
    OpGhost Tryz.prog md ops Q (GP w0 L i0 j q t c) F i0 ⟨dst, .store T x y, ty, pos, aft, gd⟩ :=
  OpGhost.skips (W := fun _ w => w.setCell ⟨q, off, none⟩ (.int k z)) hw hp (fun g d w h hd _ => by
    unfold GP at h ⊢
    rw [hd, if_neg (by decide)] at h
    rw [up_at, if_pos rfl]
    refine ⟨run_store1 hs (hx g) (hy g) (by rw [(h.get j hL).cell off]; simp [hoff]) ((h.get j hL).free off hoff), ?_⟩
    have := h.put j hL off (.int k z)
    rw [hc] at this
    exact this)
theorem GP.start {g : Nat → Nat} {d : Nat → Bool} {w : World} (h : HA w0 L w) (hd : d i0 = false) : GP w0 L i0 j q t c g d w := by
 unfold GP
 rw [hd]
 exact h
end
end Go.Proofs.YtefjnfeckenmkaaGreatDoor
