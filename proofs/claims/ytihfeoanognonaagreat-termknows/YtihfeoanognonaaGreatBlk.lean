/-
 Blocks as variables: whole loads, whole stores, new ones; a region that makes k variables out of k calls.
-/
import Derived.Test.YtihfeoanognonaaGreatGhost
import Derived.Deep.MidRow
import Derived.Laws.Tables
import Derived.Deep.RegionHeld3
import Derived.BigCall
import Derived.Deep.WholeRow
import Derived.WalkKit
import Derived.WalkSpells
import Derived.Deep.QuietTactic
import Derived.BigQuiet
import Derived.BigRegion
namespace Go.Proofs.YtihfeoanognonaaGreat
open Go.RowKit
def pt (q : Nat) : Value := .pointer (some ⟨q, 0, none⟩)
def un : Value := undef
def Blk (w : World) (q : Nat) (t : TypeId) (c : Array Value) : Prop := ∃ f : Nat × Nat, w.heap[q]? = some (.cells c t f) ∧ (f = (0, 0) ∨ (t = 5 ∧ c.size ≤ f.1))
theorem Blk.lt {w : World} {q : Nat} {t : TypeId} {c : Array Value} (h : Blk w q t c) : q < w.heap.size := by
 obtain ⟨f, h, _⟩ := h
 exact lt_of_block h
theorem Blk.at' {w w' : World} {q : Nat} {t : TypeId} {c : Array Value} (h : Blk w q t c) (e : w'.heap[q]? = w.heap[q]?) : Blk w' q t c := by
 obtain ⟨f, h, hf⟩ := h
 exact ⟨f, e.trans h, hf⟩
theorem Blk.keep {w w' : World} {q : Nat} {t : TypeId} {c : Array Value} (h : Blk w q t c) (hb : Below w.heap.size w w') : Blk w' q t c := h.at' (hb.block q h.lt)
theorem Blk.drew {w : World} {q : Nat} {t : TypeId} {c : Array Value} (h : Blk w q t c) : Blk w.drew q t c := h
theorem Blk.alloc {w : World} {q : Nat} {t : TypeId} {c : Array Value} (h : Blk w q t c) (o : Obj) : Blk (w.alloc o) q t c := h.at' (Below.heap_alloc w o q h.lt)
theorem Blk.new (w : World) (t : TypeId) (c : Array Value) : Blk (w.alloc (.cells c t)) w.heap.size t c := ⟨(0, 0), heap_alloc_last w _, .inl rfl⟩
theorem Blk.cell {w : World} {q : Nat} {t : TypeId} {c : Array Value} (h : Blk w q t c) (i : Nat) : w.cell? ⟨q, i, none⟩ = c[i]? := by
 obtain ⟨f, h, _⟩ := h
 exact cell_of_row w q i c t _ h
theorem Blk.free {w : World} {q : Nat} {t : TypeId} {c : Array Value} (h : Blk w q t c) (i : Nat) (hi : i < c.size) : w.frozen? ⟨q, i, none⟩ = false := by
 obtain ⟨f, h, hf⟩ := h
 rcases hf with rfl | ⟨_, hf⟩
 ·simp [World.frozen?, h]
 ·obtain ⟨lo, hi'⟩ := f
  simp only [World.frozen?, h]
  simp only at hf
  simp only [Bool.and_eq_false_iff, decide_eq_false_iff_not]
  left
  omega
theorem Blk.range {w : World} {q : Nat} {t : TypeId} {c : Array Value} (h : Blk w q t c) : w.rangeAt q 0 c.toList := fun j v hv => by
 rw [Nat.zero_add, h.cell j]
 simpa using hv
theorem Blk.there {w : World} {q : Nat} {t : TypeId} {c : Array Value} (h : Blk w q t c) : w.there q 0 c.size := fun j hj => by
 rw [Nat.zero_add]
 exact ⟨by rw [h.cell j]; simp [hj], h.free j hj⟩
theorem Blk.set {w : World} {q : Nat} {t : TypeId} {c : Array Value} (h : Blk w q t c) (i : Nat) (v : Value) : Blk (w.setCell ⟨q, i, none⟩ v) q t (c.setIfInBounds i v) := by
 obtain ⟨f, h, hf⟩ := h
 refine ⟨f, ?_, by rw [Array.size_setIfInBounds]; exact hf⟩
 rw [setCell_eq_setRow w q i c t f v h, setRow_heap w q _ _ t f h]
theorem Blk.far {w : World} {q b i : Nat} {t : TypeId} {c : Array Value} {v : Value} (h : Blk w q t c) (hne : q ≠ b) : Blk (w.setCell ⟨b, i, none⟩ v) q t c := h.at' (Below.heap_setCell w ⟨b, i, none⟩ v q hne)
theorem Blk.fars {q b : Nat} {t : TypeId} {c : Array Value} (hne : q ≠ b) : ∀ (vs : List Value) (o : Nat) (w : World), Blk w q t c → Blk (w.setCells b o vs) q t c
 | [], _, _, h => h
 | _ :: r, o, _, h => Blk.fars hne r (o + 1) _ (h.far hne)
theorem Blk.sets {q : Nat} {t : TypeId} : ∀ (vs : List Value) (o : Nat) (w : World) (c : Array Value), Blk w q t c → o + vs.length ≤ c.size → Blk (w.setCells q o vs) q t ((c.toList.take o ++ vs ++ c.toList.drop (o + vs.length)).toArray)
 | [], o, w, c, h, _ => by
  have : (c.toList.take o ++ [] ++ c.toList.drop (o + 0)).toArray = c := by simp
  show Blk w q t ((c.toList.take o ++ [] ++ c.toList.drop (o + 0)).toArray)
  rw [this]
  exact h
 | v :: r, o, w, c, h, hs => by
  have hlt : o < c.size := by simp at hs; omega
  have h1 := Blk.sets r (o + 1) _ _ (h.set o v) (by simp at hs ⊢; omega)
  have e : (((c.setIfInBounds o v).toList.take (o + 1) ++ r ++ (c.setIfInBounds o v).toList.drop (o + 1 + r.length)).toArray) = ((c.toList.take o ++ (v :: r) ++ c.toList.drop (o + (v :: r).length)).toArray) := by
   congr 1
   rw [Array.toList_setIfInBounds, List.take_set, List.drop_set_of_lt (by omega)]
   have h2 : (c.toList.take (o + 1)).set o v = c.toList.take o ++ [v] := by
    rw [List.take_add_one, List.set_append_right _ _ (by simp; omega)]
    have : o - (c.toList.take o).length = 0 := by simp; omega
    rw [this, List.getElem?_eq_getElem (by simpa using hlt)]
    rfl
   rw [h2]
   simp [Nat.add_assoc, Nat.add_comm 1]
  rw [e] at h1
  exact h1
theorem Blk.whole {w : World} {q : Nat} {t : TypeId} {c c' : Array Value} (h : Blk w q t c) (hs : c'.size = c.size) : Blk (w.setCells q 0 c'.toList) q t c' := by
 have h1 := Blk.sets c'.toList 0 w c h (by simp [hs])
 have e : (c.toList.take 0 ++ c'.toList ++ c.toList.drop (0 + c'.toList.length)).toArray = c' := by
  rw [List.take_zero, List.nil_append, List.drop_eq_nil_of_le (by simp [hs]), List.append_nil]
 rw [e] at h1
 exact h1
section
variable {P : Program}
theorem run_load_blk {ρ : Operand → Value} {x : Operand} {q : Nat} {t ty : TypeId} {c : Array Value} {w : World} {dst : Option Tmp} {ty' : TypeId} {pos : String} {aft : Array Edge} {gd : Option (Nat × Bool)} {D : TypeDesc}
     (h : Blk w q t c) (hu : P.underlying ty = some D) (hd : D.isRow = true)  (hx : ρ x = .pointer (some ⟨q, 0, none⟩) := by kernel_rfl) (hi : (P.info? ty).map (·.size) = some c.size := by kernel_rfl) : (execOp ρ ⟨dst, .load ty x, ty', pos, aft, gd⟩).run P w = .ok (.value (.agg c)) w := by
  simp only [execOp, hx, Instr.loadAt, Instr.sureAddr, Sem.run_bind, Sem.run_pure, Result.andThen_ok, run_loadVar_mid w q 0 ty c.toList D h.range hu hd (by simpa using hi)]
theorem run_store_blk {ρ : Operand → Value} {x y : Operand} {q : Nat} {t ty : TypeId} {c c' : Array Value} {w : World} {dst : Option Tmp} {ty' : TypeId} {pos : String} {aft : Array Edge} {gd : Option (Nat × Bool)}
      (h : Blk w q t c) (hs : c'.size = c.size)   (hx : ρ x = .pointer (some ⟨q, 0, none⟩) := by kernel_rfl) (hy : ρ y = .agg c' := by kernel_rfl) (hi : (P.info? ty).map (·.size) = some c'.size := by kernel_rfl) (h1 : c'.all (·.oneCell') = true := by kernel_rfl) :
    (execOp ρ ⟨dst, .store ty x y, ty', pos, aft, gd⟩).run P w = .ok .skip (w.setCells q 0 c'.toList) := by
  simp only [execOp, hx, hy, Instr.storeAt, Instr.sureAddr, Sem.run_bind, Sem.run_pure, Result.andThen_ok, run_storeVar_mid w q 0 ty c' (by rw [hs]; exact h.there) hi h1]
end
variable {k a0 t0 B : Nat} {t : TypeId} {z : Array Value} {val : Nat → Array Value} {g : Nat → Nat} {d : Nat → Bool} {w : World}
structure Base where
 w : World
 M : List (Nat × Array MapEntry × Nat)
def bs (w : World) : Base := ⟨w, []⟩
def Base.size (z : Base) : Nat := z.w.heap.size
structure Old (z : Base) (w : World) : Prop where
 old : Below z.w.heap.size z.w w
 maps : ∀ m ∈ z.M, w.heap[m.1]? = some (.map m.2.1 m.2.2)
 mown : ∀ m ∈ z.M, z.w.heap.size ≤ m.1
 mnd : (z.M.map (·.1)).Nodup
section
variable {z : Base} {w w' : World}
theorem Old.size (h : Old z w) : z.size ≤ w.heap.size := h.old.size
theorem Old.start (w : World) : Old (bs w) w := ⟨Below.refl _ w, fun _ h => (by cases h), fun _ h => (by cases h), List.nodup_nil⟩
theorem Old.keep (h : Old z w) (hb : Below w.heap.size w w') : Old z w' := ⟨h.old.trans (hb.mono h.old.size), fun m hm => (hb.block m.1 (lt_of_block (h.maps m hm))).trans (h.maps m hm), h.mown, h.mnd⟩
theorem Old.drew (h : Old z w) : Old z w.drew := ⟨h.old.drew, h.maps, h.mown, h.mnd⟩
theorem Old.alloc (h : Old z w) (o : Obj) : Old z (w.alloc o) := ⟨h.old.alloc h.old.size _, fun m hm => (Below.heap_alloc w o m.1 (lt_of_block (h.maps m hm))).trans (h.maps m hm), h.mown, h.mnd⟩
theorem Old.far (h : Old z w) {q : Nat} {t : TypeId} {c : Array Value} (hb : Blk w q t c) : ∀ m ∈ z.M, m.1 ≠ q := fun m hm e => by
 obtain ⟨f, hf, _⟩ := hb
 have h1 := h.maps m hm
 rw [e, hf] at h1
 cases h1
theorem Old.setCell (h : Old z w) {q i : Nat} {t : TypeId} {c : Array Value} (hq : z.size ≤ q) (hb : Blk w q t c) (v : Value) : Old z (w.setCell ⟨q, i, none⟩ v) :=
 ⟨h.old.setCell (p := ⟨q, i, none⟩) hq v, fun m hm => (Below.heap_setCell w ⟨q, i, none⟩ v m.1 (h.far hb m hm)).trans (h.maps m hm), h.mown, h.mnd⟩
theorem Old.setCells {q : Nat} {t : TypeId} (hq : z.size ≤ q) : ∀ (vs : List Value) (o : Nat) {w : World} {c : Array Value}, Old z w → Blk w q t c → Old z (w.setCells q o vs)
 | [], _, _, _, h, _ => h
 | v :: vs, o, _, _, h, hb => Old.setCells hq vs (o + 1) (h.setCell hq hb v) (hb.set o v)
theorem Old.grown (h : Old z w) {q : Nat} {t : TypeId} {c : Array Value} (hq : z.size ≤ q) (hb : Blk w q t c) (hg : w.grownBy w' (some q)) : Old z w' :=
 ⟨h.old.grown hg h.old.size (fun k hk => by cases hk; exact hq), fun m hm => (hg.block m.1 (lt_of_block (h.maps m hm)) (fun e => h.far hb m hm (by simpa using e))).trans (h.maps m hm), h.mown, h.mnd⟩
end
structure HA (w0 : Base) (L : List (Nat × TypeId × Array Value)) (w : World) : Prop where
 old : Old w0 w
 blk : ∀ x ∈ L, Blk w x.1 x.2.1 x.2.2
 own : ∀ x ∈ L, w0.size ≤ x.1
 nd : (L.map (·.1)).Nodup
variable {w0 : Base} {L : List (Nat × TypeId × Array Value)}
theorem HA.keep (w w' : World) (h : HA w0 L w) (hb : Below w.heap.size w w') : HA w0 L w' := ⟨h.old.keep hb, fun x hx => (h.blk x hx).keep hb, h.own, h.nd⟩
theorem HA.get (h : HA w0 L w) (i : Nat) {x : Nat × TypeId × Array Value} (hi : L[i]? = some x) : Blk w x.1 x.2.1 x.2.2 := h.blk x (List.mem_of_getElem? hi)
theorem HA.drew (h : HA w0 L w) : HA w0 L w.drew := ⟨h.old.drew, fun x hx => (h.blk x hx).drew, h.own, h.nd⟩
theorem HA.start (w : World) : HA (bs w) [] w := ⟨Old.start w, fun _ h => (by cases h), fun _ h => (by cases h), List.nodup_nil⟩
theorem HA.size (h : HA w0 L w) : w0.size ≤ w.heap.size := h.old.size
theorem HA.make (h : HA w0 L w) (t : TypeId) (c : Array Value) : HA w0 ((w.heap.size, t, c) :: L) (w.alloc (.cells c t)) :=
 ⟨h.old.alloc _, fun x hx => by
  rcases List.mem_cons.1 hx with rfl | hx
  ·exact Blk.new w t c
  ·exact (h.blk x hx).alloc _, fun x hx => by
  rcases List.mem_cons.1 hx with rfl | hx
  ·exact h.size
  ·exact h.own x hx, by
  rw [List.map_cons, List.nodup_cons]
  refine ⟨fun hm => ?_, h.nd⟩
  obtain ⟨x, hx, e⟩ := List.mem_map.1 hm
  have := (h.blk x hx).lt
  simp at e
  omega⟩
theorem HA.fill (h : HA w0 L w) (i : Nat) {q : Nat} {t : TypeId} {c c' : Array Value} (hi : L[i]? = some (q, t, c)) (hs : c'.size = c.size) : HA w0 (L.set i (q, t, c')) (w.setCells q 0 c'.toList) := by
 have hlt : i < L.length := (List.getElem?_eq_some_iff.1 hi).1
 have hmap : (L.set i (q, t, c')).map (·.1) = L.map (·.1) := by
  rw [List.map_set]
  refine List.ext_getElem? fun j => ?_
  by_cases hj : i = j
  ·subst hj
   rw [List.getElem?_set_self (by simpa using hlt), List.getElem?_map, hi]
   rfl
  ·rw [List.getElem?_set_ne hj]
 have hq := h.own _ (List.mem_of_getElem? hi)
 refine ⟨Old.setCells hq _ _ h.old (h.get i hi), fun x hx => ?_, fun x hx => ?_, by rw [hmap]; exact h.nd⟩
 ·obtain ⟨j, hj⟩ := List.mem_iff_getElem?.1 hx
  by_cases hij : i = j
  ·subst hij
   rw [List.getElem?_set_self hlt] at hj
   obtain rfl := Option.some.inj hj
   exact (h.get i hi).whole hs
  ·rw [List.getElem?_set_ne hij] at hj
   refine Blk.fars (fun e => hij ?_) _ _ _ (h.get j hj)
   have h1 : (L.map (·.1))[i]? = some q := by rw [List.getElem?_map, hi]; rfl
   have h2 : (L.map (·.1))[j]? = some q := by rw [List.getElem?_map, hj]; exact congrArg some e
   exact (List.getElem?_inj (by simpa using hlt) h.nd).1 (h1.trans h2.symm)
 ·obtain ⟨j, hj⟩ := List.mem_iff_getElem?.1 hx
  have : x.1 ∈ L.map (·.1) := by rw [← hmap]; exact List.mem_map.2 ⟨x, hx, rfl⟩
  obtain ⟨y, hy, e⟩ := List.mem_map.1 this
  rw [← e]
  exact h.own y hy
variable {M : List (Nat × TypeId × Array Value)}
/-! a region in the order of the text -/
section
variable {P : Program} {ops : Array Oper} {Q : Exit → Act → World → Prop} {a : Act} {rest : List Oper} {dst : Option Tmp} {ty ty' : TypeId} {pos : String} {aft : Array Edge} {gd : Option (Nat × Bool)}
structure WL (P : Program) (ops : Array Oper) (Q : Exit → Act → World → Prop) (l : List Oper) (a : Act) (w : World) : Prop where
 out : wpList P ops Q l a w
theorem wl_region {id : Nat} (h : WL P ops Q ops.toList a w) : (Code.region id ops false).wp P Q a w := wp_region_list h.out
theorem wl_nil (h : Q .normal a w) : WL P ops Q [] a w := ⟨h⟩
theorem wl_val {o : Oper} (v : Value) (hw : Region.wanted o (yielded ops a.tmps) = true) (hr : (execOp a.eval o).run P w = .ok (.value v) w) (h : WL P ops Q rest (a.put o.dst v) w) : WL P ops Q (o :: rest) a w := by
 refine ⟨?_⟩
 unfold wpList
 rw [if_pos hw]
 refine .inl ?_
 unfold Oper.wp
 rw [hr]
 exact h.out
theorem wl_skip {o : Oper}  (h : WL P ops Q rest (a.put o.dst undef) w) (hw : Region.wanted o (yielded ops a.tmps) = false := by kernel_rfl) : WL P ops Q (o :: rest) a w := by
 refine ⟨?_⟩
 unfold wpList
 rw [if_neg (by rw [hw]; decide)]
 exact h.out
theorem wl_load {x : Operand} {e : Nat × TypeId × Array Value} {D : TypeDesc} (H : HA w0 L w) (i : Nat) (hi : L[i]? = some e) 
     (hu : P.underlying ty = some D) (hd : D.isRow = true)  (h : WL P ops Q rest (a.put dst (.agg e.2.2)) w) (hw : Region.wanted ⟨dst, .load ty x, ty', pos, aft, gd⟩ (yielded ops a.tmps) = true := by kernel_rfl) (hx : a.eval x = .pointer (some ⟨e.1, 0, none⟩) := by kernel_rfl) (hz : (P.info? ty).map (·.size) = some e.2.2.size := by kernel_rfl) :
    WL P ops Q (⟨dst, .load ty x, ty', pos, aft, gd⟩ :: rest) a w := wl_val _ hw (run_load_blk (hx := hx) (H.get i hi) hu hd (hi := hz)) h
theorem wl_make {c : Array Value} {o : Oper} (H : HA w0 L w) (t : TypeId)  
  (h : ∀ q w', HA w0 ((q, t, c) :: L) w' → WL P ops Q rest (a.put o.dst (.pointer (some ⟨q, 0, none⟩))) w') (hw : Region.wanted o (yielded ops a.tmps) = true := by kernel_rfl) (hr : (execOp a.eval o).run P w = .ok (.value (.pointer (some ⟨w.heap.size, 0, none⟩))) (w.alloc (.cells c t)) := by kernel_rfl) : WL P ops Q (o :: rest) a w := by
 refine ⟨?_⟩
 unfold wpList
 rw [if_pos hw]
 refine .inl ?_
 unfold Oper.wp
 rw [hr]
 exact (h _ _ (H.make t c)).out
theorem wl_fill {x y : Operand} {q : Nat} {t : TypeId} {c c' : Array Value} (H : HA w0 L w) (i : Nat) (hi : L[i]? = some (q, t, c)) 
      (hs : c'.size = c.size)  
    (h : ∀ w', HA w0 (L.set i (q, t, c')) w' → WL P ops Q rest (a.put dst undef) w') (hw : Region.wanted ⟨dst, .store ty x y, ty', pos, aft, gd⟩ (yielded ops a.tmps) = true := by kernel_rfl) (hx : a.eval x = .pointer (some ⟨q, 0, none⟩) := by kernel_rfl) (hy : a.eval y = .agg c' := by kernel_rfl) (hz : (P.info? ty).map (·.size) = some c'.size := by kernel_rfl) (h1 : c'.all (·.oneCell') = true := by kernel_rfl) : WL P ops Q (⟨dst, .store ty x y, ty', pos, aft, gd⟩ :: rest) a w := by
  refine ⟨?_⟩
  unfold wpList
  rw [if_pos hw]
  refine .inl ?_
  unfold Oper.wp
  rw [run_store_blk (hx := hx) (hy := hy) (H.get i hi) hs (hi := hz) (h1 := h1)]
  exact (h _ (H.fill i hi hs)).out
theorem wl_call {f : FuncId} {xs : Array Operand} {ats : Array TypeId} {v : Value} (H : HA w0 L w) 
  (hr : ∀ args w, (callFunc f args).run P w = .ok (.enter f args) w) (args : Array Value)  (hc : Calls P f args w fun e w' => e = .returned v ∧ Below w.heap.size w w')
  (h : ∀ w', HA w0 L w' → WL P ops Q rest (a.put dst v) w') (hw : Region.wanted ⟨dst, .call { callee := .value (.func f), args := xs, argTypes := ats }, ty, pos, aft, gd⟩ (yielded ops a.tmps) = true := by kernel_rfl) (ha : #[] ++ xs.map a.eval ++ #[] = args := by kernel_rfl) : WL P ops Q (⟨dst, .call { callee := .value (.func f), args := xs, argTypes := ats }, ty, pos, aft, gd⟩ :: rest) a w := by
 refine ⟨?_⟩
 unfold wpList
 rw [if_pos hw]
 refine .inl ?_
 unfold Oper.wp
 rw [execOp_call_go, ha, hr]
 refine hc.mono ?_
 rintro e w' ⟨rfl, hb⟩
 exact (h _ (H.keep _ _ hb)).out
theorem then_at {y : Code} {a F : Act} (h : a = F) (hq : y.wp P Q F w) : Exit.then (y.wp P Q) Q .normal a w := h ▸ hq
theorem then_ret {K : Act → World → Prop} (h : Q .ret a w) : Exit.then K Q .ret a w := h
end
section
variable {P : Program} {ops : Array Oper} {Q : Exit → Act → World → Prop} {a : Act} {w : World} {w0 : Base} {L : List (Nat × TypeId × Array Value)} {rest : List Oper} {dst : Option Tmp} {ty ty' : TypeId} {pos : String} {aft : Array Edge} {gd : Option (Nat × Bool)}
theorem zwu {o : Oper} {v : Value} (hr : (execOp a.eval o).run P w = .ok (.value v) w) (h : WL P ops Q rest (a.put o.dst v) w) (hw : Region.wanted o (yielded ops a.tmps) = true := by kernel_rfl) : WL P ops Q (o :: rest) a w := wl_val v hw hr h
theorem zwv {o : Oper} (v : Value) (h : WL P ops Q rest (a.put o.dst v) w) (hw : Region.wanted o (yielded ops a.tmps) = true := by kernel_rfl) (hr : (execOp a.eval o).run P w = .ok (.value v) w := by kernel_rfl) : WL P ops Q (o :: rest) a w := wl_val v hw hr h
theorem zwc {f : FuncId} {xs : Array Operand} {ats : Array TypeId} {v : Value} {args : Array Value} (H : HA w0 L w) (hr : ∀ args w, (callFunc f args).run P w = .ok (.enter f args) w) (hc : Calls P f args w fun e w' => e = .returned v ∧ Below w.heap.size w w')
  (h : ∀ w', HA w0 L w' → WL P ops Q rest (a.put dst v) w') (hw : Region.wanted ⟨dst, .call { callee := .value (.func f), args := xs, argTypes := ats }, ty, pos, aft, gd⟩ (yielded ops a.tmps) = true := by kernel_rfl) (ha : #[] ++ xs.map a.eval ++ #[] = args := by kernel_rfl) : WL P ops Q (⟨dst, .call { callee := .value (.func f), args := xs, argTypes := ats }, ty, pos, aft, gd⟩ :: rest) a w := wl_call H (hw := hw) hr args (ha := ha) hc h
theorem zta {y : Code} (F : Act) (hq : y.wp P Q F w) (h : a = F := by kernel_rfl) : Exit.then (y.wp P Q) Q .normal a w := then_at h hq
theorem zsr {id : Nat} {y : Code} (h : WL P ops (Exit.then (y.wp P Q) Q) ops.toList a w) : (Code.seq (.region id ops false) y).wp P Q a w := wp_seq (wl_region h)
theorem zna {y : Code} (F : Act) (hq : y.wp P Q F w) (h : a = F := by kernel_rfl) : WL P ops (Exit.then (y.wp P Q) Q) [] a w := wl_nil (then_at h hq)
theorem znt {y : Code} (hq : y.wp P Q a w) : WL P ops (Exit.then (y.wp P Q) Q) [] a w := wl_nil (then_at rfl hq)
end
theorem zct {P : Program} {Q : Exit → Act → World → Prop} {a : Act} {w : World} {c : Operand} {x y : Code} (h : x.wp P Q a w) (hc : a.eval c = .bool true := by kernel_rfl) : (Code.cond c x y).wp P Q a w := wp_cond_true hc h
theorem zcf {P : Program} {Q : Exit → Act → World → Prop} {a : Act} {w : World} {c : Operand} {x y : Code} (h : y.wp P Q a w) (hc : a.eval c = .bool false := by kernel_rfl) : (Code.cond c x y).wp P Q a w := wp_cond_false hc h
theorem zex {a : Act} {F : (Nat → Value) → Act} {S : (Nat → Value) → Prop} (hs : S (fun i => a.tmps.getD i undef)) (h : a = F (fun i => a.tmps.getD i undef) := by kernel_rfl) : ∃ u, a = F u ∧ S u := ⟨_, h, hs⟩
theorem zbq {P : Program} {fn : Func} {a : Act} {w w0 : World} {v : Value} (ho : Below w0.heap.size w0 w) (hr : (results fn a.tmps).run P w = .ok v w := by kernel_rfl) (hd : a.defers = [] := by rfl) : bodyPost P fn (fun e w' => e = .returned v ∧ Below w0.heap.size w0 w') .ret a w := bodyPost_ret hr hd ⟨rfl, ho⟩
theorem zif {P : Program} {Q : Exit → Act → World → Prop} {a : Act} {w : World} {c : Operand} {x y : Code} (h : y.wp P Q a w) (hc : a.eval c = .bool false := by kernel_rfl) : (Code.seq (.cond c x .skip) y).wp P Q a w := wp_seq (wp_cond_false hc (wp_skip (then_at rfl h)))
theorem zit {P : Program} {Q : Exit → Act → World → Prop} {a : Act} {w : World} {c : Operand} {x y : Code} (h : y.wp P Q a w) (hc : a.eval c = .bool true := by kernel_rfl) : (Code.seq (.cond c .skip x) y).wp P Q a w := wp_seq (wp_cond_true hc (wp_skip (then_at rfl h)))
theorem zg {P : Program} {md : Region.Mode} {ops : Array Oper} {Q : Exit → Act → World → Prop} {S : (Nat → Nat) → (Nat → Bool) → World → Prop} {F : (Nat → Nat) → Act} {i : Nat} {o : Oper} {os : List Oper} (h : OpGhost P md ops Q S F i o) (hs : AllGhost P md ops Q S F (i + 1) os) : AllGhost P md ops Q S F i (o :: os) := .cons h hs
def zvs (ops : Array Oper) (F : Act) : List Value := ops.toList.map fun o => match o.dst with
 | some d => F.tmps.getD d undef
 | none => undef
theorem zrs {P : Program} {ops : Array Oper} {Q : Exit → Act → World → Prop} {id : Nat} {a : Act} {w : World} (F : Act) (S : World → Prop) (hS : S w.drew) (hop : AllSure P ops Q S F ops.toList) (hend : ∀ w, S w → Q .normal F w)
  (hQ : ∀ c ts w, Q (.panic c) F w → Q (.panic c) ⟨ts, F.defers⟩ w := by exact fun _ _ _ h => h) (hm : P.follows .mixedOrders = true := by kernel_rfl) (hc : sureB .any ops = true := by kernel_rfl) (hsel : Region.noSelect ops = true := by kernel_rfl) (hF : putAll ops.toList (zvs ops F) a = F := by kernel_rfl) : (Code.region id ops true).wp P Q a w := wp_region_sure F S (zvs ops F) hm hc hsel hF hQ hS hop hend
theorem zrg {P : Program} {ops : Array Oper} {Q : Exit → Act → World → Prop} {id : Nat} {a : Act} {w : World} (F : (Nat → Nat) → Act) (S : (Nat → Nat) → (Nat → Bool) → World → Prop) (hS : ∀ d : Nat → Bool, (∀ j, j < ops.size → d j = false) → S (fun _ => 0) d w.drew) (hop : AllGhost P .any ops Q S F 0 ops.toList) (hend : ∀ g w, S g (fun _ => true) w → Q .normal (F g) w)
  (hQ : ∀ g c ts w, Q (.panic c) (F g) w → Q (.panic c) ⟨ts, (F g).defers⟩ w := by exact fun _ _ _ _ h => h) (hm : P.follows .mixedOrders = true := by kernel_rfl) (hc : sureB .any ops = true := by kernel_rfl) (hsel : Region.noSelect ops = true := by kernel_rfl) (hF : putAll ops.toList (zvs ops (F fun _ => 0)) a = F (fun _ => 0) := by kernel_rfl) : (Code.region id ops true).wp P Q a w := wp_region_ghost F S (zvs ops (F fun _ => 0)) hm hc hsel hF hQ hS hop hend
def lku (u : Nat → Value) (l : List (Nat × Value)) (i : Nat) : Value := (l.find? (·.1 == i)).elim (u i) (·.2)
end Go.Proofs.YtihfeoanognonaaGreat
