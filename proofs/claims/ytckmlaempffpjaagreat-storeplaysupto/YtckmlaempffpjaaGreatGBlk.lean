/-
 Blocks as variables: whole loads, whole stores, new ones; a region that makes k variables out of k calls.
-/
import Derived.Test.YtckmlaempffpjaaGreatGSure
import Derived.Deep.MidRow
import Derived.Laws.Tables
import Derived.Deep.RegionHeld3
import Derived.BigCall
import Derived.Deep.WholeRow
import Derived.WalkKit
import Derived.WalkSpells
import Derived.Deep.QuietTactic
import Derived.BigQuiet
import Derived.BigRegion
import Derived.Test.YtckmlaempffpjaaGreatRows
import Derived.LoopN
import Derived.IntWalk
import Derived.Laws.Strings2
import Derived.Laws.Bits64b
import Derived.Laws.BitsAllLaws
namespace Go.Proofs.YtckmlaempffpjaaGreat
open Go.RowKit
def pt (q : Nat) : Value := .pointer (some ⟨q, 0, none⟩)
def un : Value := undef
def Blk (w : World) (q : Nat) (t : TypeId) (c : Array Value) : Prop := ∃ f : Nat × Nat, w.heap[q]? = some (.cells c t f) ∧ (f = (0, 0) ∨ (t = 5 ∧ c.size ≤ f.1))
theorem Blk.lt {w : World} {q : Nat} {t : TypeId} {c : Array Value} (h : Blk w q t c) : q < w.heap.size := by
 obtain ⟨f, h, _⟩ := h
 exact lt_of_block h
theorem Blk.at' {w w' : World} {q : Nat} {t : TypeId} {c : Array Value} (h : Blk w q t c) (e : w'.heap[q]? = w.heap[q]?) : Blk w' q t c := by
 obtain ⟨f, h, hf⟩ := h
 exact ⟨f, e.trans h, hf⟩
theorem Blk.keep {w w' : World} {q : Nat} {t : TypeId} {c : Array Value} (h : Blk w q t c) (hb : Below w.heap.size w w') : Blk w' q t c := h.at' (hb.block q h.lt)
theorem Blk.drew {w : World} {q : Nat} {t : TypeId} {c : Array Value} (h : Blk w q t c) : Blk w.drew q t c := h
theorem Blk.alloc {w : World} {q : Nat} {t : TypeId} {c : Array Value} (h : Blk w q t c) (o : Obj) : Blk (w.alloc o) q t c := h.at' (Below.heap_alloc w o q h.lt)
theorem Blk.new (w : World) (t : TypeId) (c : Array Value) : Blk (w.alloc (.cells c t)) w.heap.size t c := ⟨(0, 0), heap_alloc_last w _, .inl rfl⟩
theorem Blk.cell {w : World} {q : Nat} {t : TypeId} {c : Array Value} (h : Blk w q t c) (i : Nat) : w.cell? ⟨q, i, none⟩ = c[i]? := by
 obtain ⟨f, h, _⟩ := h
 exact cell_of_row w q i c t _ h
theorem Blk.free {w : World} {q : Nat} {t : TypeId} {c : Array Value} (h : Blk w q t c) (i : Nat) (hi : i < c.size) : w.frozen? ⟨q, i, none⟩ = false := by
 obtain ⟨f, h, hf⟩ := h
 rcases hf with rfl | ⟨_, hf⟩
 ·simp [World.frozen?, h]
 ·obtain ⟨lo, hi'⟩ := f
  simp only [World.frozen?, h]
  simp only at hf
  simp only [Bool.and_eq_false_iff, decide_eq_false_iff_not]
  left
  omega
theorem Blk.range {w : World} {q : Nat} {t : TypeId} {c : Array Value} (h : Blk w q t c) : w.rangeAt q 0 c.toList := fun j v hv => by
 rw [Nat.zero_add, h.cell j]
 simpa using hv
theorem Blk.there {w : World} {q : Nat} {t : TypeId} {c : Array Value} (h : Blk w q t c) : w.there q 0 c.size := fun j hj => by
 rw [Nat.zero_add]
 exact ⟨by rw [h.cell j]; simp [hj], h.free j hj⟩
theorem Blk.set {w : World} {q : Nat} {t : TypeId} {c : Array Value} (h : Blk w q t c) (i : Nat) (v : Value) : Blk (w.setCell ⟨q, i, none⟩ v) q t (c.setIfInBounds i v) := by
 obtain ⟨f, h, hf⟩ := h
 refine ⟨f, ?_, by rw [Array.size_setIfInBounds]; exact hf⟩
 rw [setCell_eq_setRow w q i c t f v h, setRow_heap w q _ _ t f h]
theorem Blk.far {w : World} {q b i : Nat} {t : TypeId} {c : Array Value} {v : Value} (h : Blk w q t c) (hne : q ≠ b) : Blk (w.setCell ⟨b, i, none⟩ v) q t c := h.at' (Below.heap_setCell w ⟨b, i, none⟩ v q hne)
theorem Blk.fars {q b : Nat} {t : TypeId} {c : Array Value} (hne : q ≠ b) : ∀ (vs : List Value) (o : Nat) (w : World), Blk w q t c → Blk (w.setCells b o vs) q t c
 | [], _, _, h => h
 | _ :: r, o, _, h => Blk.fars hne r (o + 1) _ (h.far hne)
theorem Blk.sets {q : Nat} {t : TypeId} : ∀ (vs : List Value) (o : Nat) (w : World) (c : Array Value), Blk w q t c → o + vs.length ≤ c.size → Blk (w.setCells q o vs) q t ((c.toList.take o ++ vs ++ c.toList.drop (o + vs.length)).toArray)
 | [], o, w, c, h, _ => by
  have : (c.toList.take o ++ [] ++ c.toList.drop (o + 0)).toArray = c := by simp
  show Blk w q t ((c.toList.take o ++ [] ++ c.toList.drop (o + 0)).toArray)
  rw [this]
  exact h
 | v :: r, o, w, c, h, hs => by
  have hlt : o < c.size := by simp at hs; omega
  have h1 := Blk.sets r (o + 1) _ _ (h.set o v) (by simp at hs ⊢; omega)
  have e : (((c.setIfInBounds o v).toList.take (o + 1) ++ r ++ (c.setIfInBounds o v).toList.drop (o + 1 + r.length)).toArray) = ((c.toList.take o ++ (v :: r) ++ c.toList.drop (o + (v :: r).length)).toArray) := by
   congr 1
   rw [Array.toList_setIfInBounds, List.take_set, List.drop_set_of_lt (by omega)]
   have h2 : (c.toList.take (o + 1)).set o v = c.toList.take o ++ [v] := by
    rw [List.take_add_one, List.set_append_right _ _ (by simp; omega)]
    have : o - (c.toList.take o).length = 0 := by simp; omega
    rw [this, List.getElem?_eq_getElem (by simpa using hlt)]
    rfl
   rw [h2]
   simp [Nat.add_assoc, Nat.add_comm 1]
  rw [e] at h1
  exact h1
theorem Blk.whole {w : World} {q : Nat} {t : TypeId} {c c' : Array Value} (h : Blk w q t c) (hs : c'.size = c.size) : Blk (w.setCells q 0 c'.toList) q t c' := by
 have h1 := Blk.sets c'.toList 0 w c h (by simp [hs])
 have e : (c.toList.take 0 ++ c'.toList ++ c.toList.drop (0 + c'.toList.length)).toArray = c' := by
  rw [List.take_zero, List.nil_append, List.drop_eq_nil_of_le (by simp [hs]), List.append_nil]
 rw [e] at h1
 exact h1
section
variable {P : Program}
theorem run_load_blk {ρ : Operand → Value} {x : Operand} {q : Nat} {t ty : TypeId} {c : Array Value} {w : World} {dst : Option Tmp} {ty' : TypeId} {pos : String} {aft : Array Edge} {gd : Option (Nat × Bool)} {D : TypeDesc}
     (h : Blk w q t c) (hu : P.underlying ty = some D) (hd : D.isRow = true)  (hx : ρ x = .pointer (some ⟨q, 0, none⟩) := by kernel_rfl) (hi : (P.info? ty).map (·.size) = some c.size := by kernel_rfl) : (execOp ρ ⟨dst, .load ty x, ty', pos, aft, gd⟩).run P w = .ok (.value (.agg c)) w := by
  simp only [execOp, hx, Instr.loadAt, Instr.sureAddr, Sem.run_bind, Sem.run_pure, Result.andThen_ok, run_loadVar_mid w q 0 ty c.toList D h.range hu hd (by simpa using hi)]
theorem run_store_blk {ρ : Operand → Value} {x y : Operand} {q : Nat} {t ty : TypeId} {c c' : Array Value} {w : World} {dst : Option Tmp} {ty' : TypeId} {pos : String} {aft : Array Edge} {gd : Option (Nat × Bool)}
      (h : Blk w q t c) (hs : c'.size = c.size)   (hx : ρ x = .pointer (some ⟨q, 0, none⟩) := by kernel_rfl) (hy : ρ y = .agg c' := by kernel_rfl) (hi : (P.info? ty).map (·.size) = some c'.size := by kernel_rfl) (h1 : c'.all (·.oneCell') = true := by kernel_rfl) :
    (execOp ρ ⟨dst, .store ty x y, ty', pos, aft, gd⟩).run P w = .ok .skip (w.setCells q 0 c'.toList) := by
  simp only [execOp, hx, hy, Instr.storeAt, Instr.sureAddr, Sem.run_bind, Sem.run_pure, Result.andThen_ok, run_storeVar_mid w q 0 ty c' (by rw [hs]; exact h.there) hi h1]
end
variable {k a0 t0 B : Nat} {t : TypeId} {z : Array Value} {val : Nat → Array Value} {g : Nat → Nat} {d : Nat → Bool} {w : World}
inductive MO where
 | mp (es : Array MapEntry) (c : Nat)
 | it (m since : Nat) (seen : Array Nat) (last : Nat)
 | df
 | lp (r : Loop)
def MO.obj : MO → Obj
 | .mp es c => .map es c
 | .it m s seen l => .mapIter (some m) s seen l
 | .df => .deferred (some [])
 | .lp r => .loop r
structure Base where
 w : World
 M : List (Nat × MO)
def bs (w : World) : Base := ⟨w, []⟩
def Base.size (z : Base) : Nat := z.w.heap.size
structure Old (z : Base) (w : World) : Prop where
 old : Below z.w.heap.size z.w w
 maps : ∀ m ∈ z.M, w.heap[m.1]? = some m.2.obj
 mown : ∀ m ∈ z.M, z.w.heap.size ≤ m.1
 mnd : (z.M.map (·.1)).Nodup
section
variable {z : Base} {w w' : World}
theorem Old.size (h : Old z w) : z.size ≤ w.heap.size := h.old.size
theorem Old.start (w : World) : Old (bs w) w := ⟨Below.refl _ w, fun _ h => (by cases h), fun _ h => (by cases h), List.nodup_nil⟩
theorem Old.keep (h : Old z w) (hb : Below w.heap.size w w') : Old z w' := ⟨h.old.trans (hb.mono h.old.size), fun m hm => (hb.block m.1 (lt_of_block (h.maps m hm))).trans (h.maps m hm), h.mown, h.mnd⟩
theorem Old.drew (h : Old z w) : Old z w.drew := ⟨h.old.drew, h.maps, h.mown, h.mnd⟩
theorem Old.alloc (h : Old z w) (o : Obj) : Old z (w.alloc o) := ⟨h.old.alloc h.old.size _, fun m hm => (Below.heap_alloc w o m.1 (lt_of_block (h.maps m hm))).trans (h.maps m hm), h.mown, h.mnd⟩
theorem MO.nc (o : MO) (c : Array Value) (t : TypeId) (f : Nat × Nat) : o.obj ≠ .cells c t f := by cases o <;> exact fun h => by cases h
theorem Old.far (h : Old z w) {q : Nat} {t : TypeId} {c : Array Value} (hb : Blk w q t c) : ∀ m ∈ z.M, m.1 ≠ q := fun m hm e => by
 obtain ⟨f, hf, _⟩ := hb
 have h1 := h.maps m hm
 rw [e, hf] at h1
 exact m.2.nc _ _ _ (Option.some.inj h1).symm
theorem Old.setCell (h : Old z w) {q i : Nat} {t : TypeId} {c : Array Value} (hq : z.size ≤ q) (hb : Blk w q t c) (v : Value) : Old z (w.setCell ⟨q, i, none⟩ v) :=
 ⟨h.old.setCell (p := ⟨q, i, none⟩) hq v, fun m hm => (Below.heap_setCell w ⟨q, i, none⟩ v m.1 (h.far hb m hm)).trans (h.maps m hm), h.mown, h.mnd⟩
theorem Old.setCells {q : Nat} {t : TypeId} (hq : z.size ≤ q) : ∀ (vs : List Value) (o : Nat) {w : World} {c : Array Value}, Old z w → Blk w q t c → Old z (w.setCells q o vs)
 | [], _, _, _, h, _ => h
 | v :: vs, o, _, _, h, hb => Old.setCells hq vs (o + 1) (h.setCell hq hb v) (hb.set o v)
theorem Old.grown (h : Old z w) {q : Nat} {t : TypeId} {c : Array Value} (hq : z.size ≤ q) (hb : Blk w q t c) (hg : w.grownBy w' (some q)) : Old z w' :=
 ⟨h.old.grown hg h.old.size (fun k hk => by cases hk; exact hq), fun m hm => (hg.block m.1 (lt_of_block (h.maps m hm)) (fun e => h.far hb m hm (by simpa using e))).trans (h.maps m hm), h.mown, h.mnd⟩
end
structure HA (w0 : Base) (L : List (Nat × TypeId × Array Value)) (w : World) : Prop where
 old : Old w0 w
 blk : ∀ x ∈ L, Blk w x.1 x.2.1 x.2.2
 own : ∀ x ∈ L, w0.size ≤ x.1
 nd : (L.map (·.1)).Nodup
variable {w0 : Base} {L : List (Nat × TypeId × Array Value)}
theorem HA.keep (w w' : World) (h : HA w0 L w) (hb : Below w.heap.size w w') : HA w0 L w' := ⟨h.old.keep hb, fun x hx => (h.blk x hx).keep hb, h.own, h.nd⟩
theorem HA.get (h : HA w0 L w) (i : Nat) {x : Nat × TypeId × Array Value} (hi : L[i]? = some x) : Blk w x.1 x.2.1 x.2.2 := h.blk x (List.mem_of_getElem? hi)
theorem HA.drew (h : HA w0 L w) : HA w0 L w.drew := ⟨h.old.drew, fun x hx => (h.blk x hx).drew, h.own, h.nd⟩
theorem HA.start (w : World) : HA (bs w) [] w := ⟨Old.start w, fun _ h => (by cases h), fun _ h => (by cases h), List.nodup_nil⟩
theorem HA.size (h : HA w0 L w) : w0.size ≤ w.heap.size := h.old.size
theorem HA.make (h : HA w0 L w) (t : TypeId) (c : Array Value) : HA w0 ((w.heap.size, t, c) :: L) (w.alloc (.cells c t)) :=
 ⟨h.old.alloc _, fun x hx => by
  rcases List.mem_cons.1 hx with rfl | hx
  ·exact Blk.new w t c
  ·exact (h.blk x hx).alloc _, fun x hx => by
  rcases List.mem_cons.1 hx with rfl | hx
  ·exact h.size
  ·exact h.own x hx, by
  rw [List.map_cons, List.nodup_cons]
  refine ⟨fun hm => ?_, h.nd⟩
  obtain ⟨x, hx, e⟩ := List.mem_map.1 hm
  have := (h.blk x hx).lt
  simp at e
  omega⟩
theorem HA.fill (h : HA w0 L w) (i : Nat) {q : Nat} {t : TypeId} {c c' : Array Value} (hi : L[i]? = some (q, t, c)) (hs : c'.size = c.size) : HA w0 (L.set i (q, t, c')) (w.setCells q 0 c'.toList) := by
 have hlt : i < L.length := (List.getElem?_eq_some_iff.1 hi).1
 have hmap : (L.set i (q, t, c')).map (·.1) = L.map (·.1) := by
  rw [List.map_set]
  refine List.ext_getElem? fun j => ?_
  by_cases hj : i = j
  ·subst hj
   rw [List.getElem?_set_self (by simpa using hlt), List.getElem?_map, hi]
   rfl
  ·rw [List.getElem?_set_ne hj]
 have hq := h.own _ (List.mem_of_getElem? hi)
 refine ⟨Old.setCells hq _ _ h.old (h.get i hi), fun x hx => ?_, fun x hx => ?_, by rw [hmap]; exact h.nd⟩
 ·obtain ⟨j, hj⟩ := List.mem_iff_getElem?.1 hx
  by_cases hij : i = j
  ·subst hij
   rw [List.getElem?_set_self hlt] at hj
   obtain rfl := Option.some.inj hj
   exact (h.get i hi).whole hs
  ·rw [List.getElem?_set_ne hij] at hj
   refine Blk.fars (fun e => hij ?_) _ _ _ (h.get j hj)
   have h1 : (L.map (·.1))[i]? = some q := by rw [List.getElem?_map, hi]; rfl
   have h2 : (L.map (·.1))[j]? = some q := by rw [List.getElem?_map, hj]; exact congrArg some e
   exact (List.getElem?_inj (by simpa using hlt) h.nd).1 (h1.trans h2.symm)
 ·obtain ⟨j, hj⟩ := List.mem_iff_getElem?.1 hx
  have : x.1 ∈ L.map (·.1) := by rw [← hmap]; exact List.mem_map.2 ⟨x, hx, rfl⟩
  obtain ⟨y, hy, e⟩ := List.mem_map.1 this
  rw [← e]
  exact h.own y hy
variable {M : List (Nat × TypeId × Array Value)}
/-! a region in the order of the text -/
section
variable {P : Program} {ops : Array Oper} {Q : Exit → Act → World → Prop} {a : Act} {rest : List Oper} {dst : Option Tmp} {ty ty' : TypeId} {pos : String} {aft : Array Edge} {gd : Option (Nat × Bool)}
structure WL (P : Program) (ops : Array Oper) (Q : Exit → Act → World → Prop) (l : List Oper) (a : Act) (w : World) : Prop where
 out : wpList P ops Q l a w
theorem wl_region {id : Nat} (h : WL P ops Q ops.toList a w) : (Code.region id ops false).wp P Q a w := wp_region_list h.out
theorem wl_nil (h : Q .normal a w) : WL P ops Q [] a w := ⟨h⟩
theorem wl_val {o : Oper} (v : Value) (hw : Region.wanted o (yielded ops a.tmps) = true) (hr : (execOp a.eval o).run P w = .ok (.value v) w) (h : WL P ops Q rest (a.put o.dst v) w) : WL P ops Q (o :: rest) a w := by
 refine ⟨?_⟩
 unfold wpList
 rw [if_pos hw]
 refine .inl ?_
 unfold Oper.wp
 rw [hr]
 exact h.out
theorem wl_skip {o : Oper}  (h : WL P ops Q rest (a.put o.dst undef) w) (hw : Region.wanted o (yielded ops a.tmps) = false := by kernel_rfl) : WL P ops Q (o :: rest) a w := by
 refine ⟨?_⟩
 unfold wpList
 rw [if_neg (by rw [hw]; decide)]
 exact h.out
theorem wl_load {x : Operand} {e : Nat × TypeId × Array Value} {D : TypeDesc} (H : HA w0 L w) (i : Nat) (hi : L[i]? = some e) 
     (hu : P.underlying ty = some D) (hd : D.isRow = true)  (h : WL P ops Q rest (a.put dst (.agg e.2.2)) w) (hw : Region.wanted ⟨dst, .load ty x, ty', pos, aft, gd⟩ (yielded ops a.tmps) = true := by kernel_rfl) (hx : a.eval x = .pointer (some ⟨e.1, 0, none⟩) := by kernel_rfl) (hz : (P.info? ty).map (·.size) = some e.2.2.size := by kernel_rfl) :
    WL P ops Q (⟨dst, .load ty x, ty', pos, aft, gd⟩ :: rest) a w := wl_val _ hw (run_load_blk (hx := hx) (H.get i hi) hu hd (hi := hz)) h
theorem wl_make {c : Array Value} {o : Oper} (H : HA w0 L w) (t : TypeId)  
  (h : ∀ q w', HA w0 ((q, t, c) :: L) w' → WL P ops Q rest (a.put o.dst (.pointer (some ⟨q, 0, none⟩))) w') (hw : Region.wanted o (yielded ops a.tmps) = true := by kernel_rfl) (hr : (execOp a.eval o).run P w = .ok (.value (.pointer (some ⟨w.heap.size, 0, none⟩))) (w.alloc (.cells c t)) := by kernel_rfl) : WL P ops Q (o :: rest) a w := by
 refine ⟨?_⟩
 unfold wpList
 rw [if_pos hw]
 refine .inl ?_
 unfold Oper.wp
 rw [hr]
 exact (h _ _ (H.make t c)).out
theorem wl_fill {x y : Operand} {q : Nat} {t : TypeId} {c c' : Array Value} (H : HA w0 L w) (i : Nat) (hi : L[i]? = some (q, t, c)) 
      (hs : c'.size = c.size)  
    (h : ∀ w', HA w0 (L.set i (q, t, c')) w' → WL P ops Q rest (a.put dst undef) w') (hw : Region.wanted ⟨dst, .store ty x y, ty', pos, aft, gd⟩ (yielded ops a.tmps) = true := by kernel_rfl) (hx : a.eval x = .pointer (some ⟨q, 0, none⟩) := by kernel_rfl) (hy : a.eval y = .agg c' := by kernel_rfl) (hz : (P.info? ty).map (·.size) = some c'.size := by kernel_rfl) (h1 : c'.all (·.oneCell') = true := by kernel_rfl) : WL P ops Q (⟨dst, .store ty x y, ty', pos, aft, gd⟩ :: rest) a w := by
  refine ⟨?_⟩
  unfold wpList
  rw [if_pos hw]
  refine .inl ?_
  unfold Oper.wp
  rw [run_store_blk (hx := hx) (hy := hy) (H.get i hi) hs (hi := hz) (h1 := h1)]
  exact (h _ (H.fill i hi hs)).out
theorem wl_call {f : FuncId} {xs : Array Operand} {ats : Array TypeId} {v : Value} (H : HA w0 L w) 
  (hr : ∀ args w, (callFunc f args).run P w = .ok (.enter f args) w) (args : Array Value)  (hc : Calls P f args w fun e w' => e = .returned v ∧ Below w.heap.size w w')
  (h : ∀ w', HA w0 L w' → WL P ops Q rest (a.put dst v) w') (hw : Region.wanted ⟨dst, .call { callee := .value (.func f), args := xs, argTypes := ats }, ty, pos, aft, gd⟩ (yielded ops a.tmps) = true := by kernel_rfl) (ha : #[] ++ xs.map a.eval ++ #[] = args := by kernel_rfl) : WL P ops Q (⟨dst, .call { callee := .value (.func f), args := xs, argTypes := ats }, ty, pos, aft, gd⟩ :: rest) a w := by
 refine ⟨?_⟩
 unfold wpList
 rw [if_pos hw]
 refine .inl ?_
 unfold Oper.wp
 rw [execOp_call_go, ha, hr]
 refine hc.mono ?_
 rintro e w' ⟨rfl, hb⟩
 exact (h _ (H.keep _ _ hb)).out
theorem then_at {y : Code} {a F : Act} (h : a = F) (hq : y.wp P Q F w) : Exit.then (y.wp P Q) Q .normal a w := h ▸ hq
theorem then_ret {K : Act → World → Prop} (h : Q .ret a w) : Exit.then K Q .ret a w := h
end
section
variable {P : Program} {ops : Array Oper} {Q : Exit → Act → World → Prop} {a : Act} {w : World} {w0 : Base} {L : List (Nat × TypeId × Array Value)} {rest : List Oper} {dst : Option Tmp} {ty ty' : TypeId} {pos : String} {aft : Array Edge} {gd : Option (Nat × Bool)}
theorem zwu {o : Oper} {v : Value} (hr : (execOp a.eval o).run P w = .ok (.value v) w) (h : WL P ops Q rest (a.put o.dst v) w) (hw : Region.wanted o (yielded ops a.tmps) = true := by kernel_rfl) : WL P ops Q (o :: rest) a w := wl_val v hw hr h
theorem zwv {o : Oper} (v : Value) (h : WL P ops Q rest (a.put o.dst v) w) (hw : Region.wanted o (yielded ops a.tmps) = true := by kernel_rfl) (hr : (execOp a.eval o).run P w = .ok (.value v) w := by kernel_rfl) : WL P ops Q (o :: rest) a w := wl_val v hw hr h
theorem zwc {f : FuncId} {xs : Array Operand} {ats : Array TypeId} {v : Value} {args : Array Value} (H : HA w0 L w) (hr : ∀ args w, (callFunc f args).run P w = .ok (.enter f args) w) (hc : Calls P f args w fun e w' => e = .returned v ∧ Below w.heap.size w w')
  (h : ∀ w', HA w0 L w' → WL P ops Q rest (a.put dst v) w') (hw : Region.wanted ⟨dst, .call { callee := .value (.func f), args := xs, argTypes := ats }, ty, pos, aft, gd⟩ (yielded ops a.tmps) = true := by kernel_rfl) (ha : #[] ++ xs.map a.eval ++ #[] = args := by kernel_rfl) : WL P ops Q (⟨dst, .call { callee := .value (.func f), args := xs, argTypes := ats }, ty, pos, aft, gd⟩ :: rest) a w := wl_call H (hw := hw) hr args (ha := ha) hc h
theorem zta {y : Code} (F : Act) (hq : y.wp P Q F w) (h : a = F := by kernel_rfl) : Exit.then (y.wp P Q) Q .normal a w := then_at h hq
theorem zsr {id : Nat} {y : Code} (h : WL P ops (Exit.then (y.wp P Q) Q) ops.toList a w) : (Code.seq (.region id ops false) y).wp P Q a w := wp_seq (wl_region h)
theorem zna {y : Code} (F : Act) (hq : y.wp P Q F w) (h : a = F := by kernel_rfl) : WL P ops (Exit.then (y.wp P Q) Q) [] a w := wl_nil (then_at h hq)
theorem znt {y : Code} (hq : y.wp P Q a w) : WL P ops (Exit.then (y.wp P Q) Q) [] a w := wl_nil (then_at rfl hq)
end
theorem zct {P : Program} {Q : Exit → Act → World → Prop} {a : Act} {w : World} {c : Operand} {x y : Code} (h : x.wp P Q a w) (hc : a.eval c = .bool true := by kernel_rfl) : (Code.cond c x y).wp P Q a w := wp_cond_true hc h
theorem zcf {P : Program} {Q : Exit → Act → World → Prop} {a : Act} {w : World} {c : Operand} {x y : Code} (h : y.wp P Q a w) (hc : a.eval c = .bool false := by kernel_rfl) : (Code.cond c x y).wp P Q a w := wp_cond_false hc h
theorem zex {a : Act} {F : (Nat → Value) → Act} {S : (Nat → Value) → Prop} (hs : S (fun i => a.tmps.getD i undef)) (h : a = F (fun i => a.tmps.getD i undef) := by kernel_rfl) : ∃ u, a = F u ∧ S u := ⟨_, h, hs⟩
def lkg (a : Act) (l : List (Nat × Value)) (i : Nat) : Value := (l.find? (·.1 == i)).elim (a.tmps.getD i undef) (·.2)
theorem zey {a : Act} {F : (Nat → Value) → Act} {S : (Nat → Value) → Prop} (l : List (Nat × Value)) (hs : S (lkg a l)) (h : a = F (lkg a l) := by kernel_rfl) : ∃ u, a = F u ∧ S u := ⟨_, h, hs⟩
theorem zbq {P : Program} {fn : Func} {a : Act} {w w0 : World} {v : Value} (ho : Below w0.heap.size w0 w) (hr : (results fn a.tmps).run P w = .ok v w := by kernel_rfl) (hd : a.defers = [] := by rfl) : bodyPost P fn (fun e w' => e = .returned v ∧ Below w0.heap.size w0 w') .ret a w := bodyPost_ret hr hd ⟨rfl, ho⟩
theorem zif {P : Program} {Q : Exit → Act → World → Prop} {a : Act} {w : World} {c : Operand} {x y : Code} (h : y.wp P Q a w) (hc : a.eval c = .bool false := by kernel_rfl) : (Code.seq (.cond c x .skip) y).wp P Q a w := wp_seq (wp_cond_false hc (wp_skip (then_at rfl h)))
theorem zit {P : Program} {Q : Exit → Act → World → Prop} {a : Act} {w : World} {c : Operand} {x y : Code} (h : y.wp P Q a w) (hc : a.eval c = .bool true := by kernel_rfl) : (Code.seq (.cond c .skip x) y).wp P Q a w := wp_seq (wp_cond_true hc (wp_skip (then_at rfl h)))
def zvs (ops : Array Oper) (F : Act) : List Value := ops.toList.map fun o => match o.dst with
 | some d => F.tmps.getD d undef
 | none => undef
theorem zrs {P : Program} {ops : Array Oper} {Q : Exit → Act → World → Prop} {id : Nat} {a : Act} {w : World} (F : Act) (S : World → Prop) (hS : S w.drew) (hop : AllSure P ops Q S F ops.toList) (hend : ∀ w, S w → Q .normal F w)
  (hQ : ∀ c ts w, Q (.panic c) F w → Q (.panic c) ⟨ts, F.defers⟩ w := by exact fun _ _ _ h => h) (hm : P.follows .mixedOrders = true := by kernel_rfl) (hc : sureB .any ops = true := by kernel_rfl) (hsel : Region.noSelect ops = true := by kernel_rfl) (hF : putAll ops.toList (zvs ops F) a = F := by kernel_rfl) : (Code.region id ops true).wp P Q a w := wp_region_sure F S (zvs ops F) hm hc hsel hF hQ hS hop hend
def lku (u : Nat → Value) (l : List (Nat × Value)) (i : Nat) : Value := (l.find? (·.1 == i)).elim (u i) (·.2)
def pv (P : Program) (a : Act) (o : Oper) (w : World) : Value := match (execOp a.eval o).run P w with
 | .ok (.value v) _ => v
 | _ => undef
section
variable {P : Program} {ops : Array Oper} {Q : Exit → Act → World → Prop} {a : Act} {w : World} {rest : List Oper}
theorem zv {o : Oper} (h : WL P ops Q rest (a.put o.dst (pv P a o w)) w) (hw : Region.wanted o (yielded ops a.tmps) = true := by kernel_rfl) (hr : (execOp a.eval o).run P w = .ok (.value (pv P a o w)) w := by kernel_rfl) : WL P ops Q (o :: rest) a w := wl_val _ hw hr h
theorem zns {id : Nat} {op2 : Array Oper} {y : Code} (h : WL P op2 (Exit.then (y.wp P Q) Q) op2.toList a w) : WL P ops (Exit.then ((Code.seq (.region id op2 false) y).wp P Q) Q) [] a w := znt (zsr h)
theorem zt {y : Code} (hq : y.wp P Q a w) : Exit.then (y.wp P Q) Q .normal a w := then_at rfl hq
theorem zrt {K : Act → World → Prop} (h : Q .ret a w) : Exit.then K Q .ret a w := h
end
theorem zb {P : Program} {fn : Func} {Q : Ending → World → Prop} {a : Act} {w : World} {v : Value} (hq : Q (.returned v) w) (hr : (results fn a.tmps).run P w = .ok v w := by kernel_rfl) (hd : a.defers = [] := by rfl) : bodyPost P fn Q .ret a w := bodyPost_ret hr hd hq
theorem sc {α : Type} {a : α} {l m : List α} (h : l.Sublist m) : (a :: l).Sublist (a :: m) := h.cons_cons a
theorem sk {α : Type} {a : α} {l m : List α} (h : l.Sublist m) : l.Sublist (a :: m) := h.cons a
theorem sr {α : Type} {l : List α} : l.Sublist l := List.Sublist.refl l
theorem mc {α : Type} {a b : α} {l : List α} (h : a ∈ l) : a ∈ b :: l := List.mem_cons_of_mem b h
theorem dt {p : Prop} [Decidable p] (h : p) : decide p = true := decide_eq_true h
theorem df {p : Prop} [Decidable p] (h : ¬ p) : decide p = false := decide_eq_false h
abbrev pq (q : Nat) : Value := .pointer (some ⟨q, 0, none⟩)
end Go.Proofs.YtckmlaempffpjaaGreat
namespace Go.Proofs.YtckmlaempffpjaaGreat
open Go.RowKit
def iN (k : IntKind) (n : Nat) : Value := .int k (n : Int)
def top : IntKind → Nat
 | .i8 => 128 | .u8 => 256 | .i16 => 32768 | .u16 => 65536 | .i32 => 2147483648 | .u32 => 4294967296 | .i64 => 9223372036854775808 | .u64 => 18446744073709551616
theorem wrap_top (k : IntKind) (n : Nat) (h : n < top k) : k.wrap (n : Int) = (n : Int) := by
 cases k <;> simp only [top] at h <;> simp [IntKind.wrap, IntKind.bits, IntKind.signed] <;> omega
section
variable {ρ : Operand → Value} {x y : Operand} {w : World} {dst : Option Tmp} {T T2 ty : TypeId} {pos : String} {aft : Array Edge} {gd : Option (Nat × Bool)} {k : IntKind} {a b c : Nat} {P : Program}
theorem run_add   (hc : a + b < top k) (hx : ρ x = iN k a := by kernel_rfl) (hy : ρ y = iN k b := by kernel_rfl) : (execOp ρ ⟨dst, .binOp .add T x y T2, ty, pos, aft, gd⟩).run P w = .ok (.value (iN k (a + b))) w := by
 have h := wrap_top k (a + b) hc
 simp only [execOp, hx, hy, iN]
 simpa [binOp, go_sem] using h
theorem run_sub   (hba : b ≤ a) (hc : a < top k) (hx : ρ x = iN k a := by kernel_rfl) (hy : ρ y = iN k b := by kernel_rfl) : (execOp ρ ⟨dst, .binOp .sub T x y T2, ty, pos, aft, gd⟩).run P w = .ok (.value (iN k (a - b))) w := by
 have h := wrap_top k (a - b) (by omega)
 rw [Int.ofNat_sub hba] at h
 simp only [execOp, hx, hy, iN]
 rw [Int.ofNat_sub hba]
 simpa [binOp, go_sem] using h
theorem run_mul   (hc : a * b < top k) (hx : ρ x = iN k a := by kernel_rfl) (hy : ρ y = iN k b := by kernel_rfl) : (execOp ρ ⟨dst, .binOp .mul T x y T2, ty, pos, aft, gd⟩).run P w = .ok (.value (iN k (a * b))) w := by
 have h := wrap_top k (a * b) hc
 simp only [execOp, hx, hy, iN]
 simpa [binOp, go_sem] using h
theorem run_quo (hx : ρ x = iN k a) (hy : ρ y = iN k b) (hb : b ≠ 0) (hc : a < top k) : (execOp ρ ⟨dst, .binOp .quo T x y T2, ty, pos, aft, gd⟩).run P w = .ok (.value (iN k (a / b))) w := by
 have h := wrap_top k (a / b) (Nat.lt_of_le_of_lt (Nat.div_le_self a b) hc)
 simp only [execOp, hx, hy, iN]
 simpa [binOp, go_sem, hb] using h
theorem run_rem   (hb : b ≠ 0) (hx : ρ x = iN k a := by kernel_rfl) (hy : ρ y = iN k b := by kernel_rfl) : (execOp ρ ⟨dst, .binOp .rem T x y T2, ty, pos, aft, gd⟩).run P w = .ok (.value (iN k (a % b))) w := by
 simp only [execOp, hx, hy, iN]
 simp [binOp, go_sem, hb]
 exact Int.tmod_eq_emod_of_nonneg (by omega)
theorem run_conv (k2 : IntKind) (hT : P.underlying T = some (.int k)) (hT2 : P.underlying T2 = some (.int k2)) (hx : ρ x = iN k a) (ha : a < top k2) : (execOp ρ ⟨dst, .convert T T2 x, ty, pos, aft, gd⟩).run P w = .ok (.value (iN k2 a)) w := by
 have h := wrap_top k2 a ha
 simp only [execOp, hx, iN]
 simpa [go_sem, hT, hT2] using h
theorem run_lss   (t : Bool) (ht : decide (a < b) = t) (hx : ρ x = iN k a := by kernel_rfl) (hy : ρ y = iN k b := by kernel_rfl) : (execOp ρ ⟨dst, .binOp .lss T x y T2, ty, pos, aft, gd⟩).run P w = .ok (.value (.bool t)) w := by
 subst ht
 simp only [execOp, hx, hy, iN]
 simp [binOp, go_sem]
theorem run_eqi   (t : Bool) (ht : decide (a = b) = t) (hx : ρ x = iN k a := by kernel_rfl) (hy : ρ y = iN k b := by kernel_rfl) : (execOp ρ ⟨dst, .binOp .eql T x y T2, ty, pos, aft, gd⟩).run P w = .ok (.value (.bool t)) w := by
 subst ht
 simp only [execOp, hx, hy, iN]
 by_cases h : a = b
 ·subst h; simp [binOp, go_sem]
 ·have h2 : ((a : Int) == (b : Int)) = false := beq_eq_false_iff_ne.2 (by omega)
  simp [binOp, go_sem, h, h2]
theorem run_nei   (t : Bool) (ht : decide (a ≠ b) = t) (hx : ρ x = iN k a := by kernel_rfl) (hy : ρ y = iN k b := by kernel_rfl) : (execOp ρ ⟨dst, .binOp .neq T x y T2, ty, pos, aft, gd⟩).run P w = .ok (.value (.bool t)) w := by
 subst ht
 simp only [execOp, hx, hy, iN]
 by_cases h : a = b
 ·subst h; simp [binOp, go_sem]
 ·have h2 : ((a : Int) == (b : Int)) = false := beq_eq_false_iff_ne.2 (by omega)
  simp [binOp, go_sem, h]
  omega
theorem run_eqs {s t : ByteArray}   (r : Bool) (hr : decide (s = t) = r) (hx : ρ x = .string s := by kernel_rfl) (hy : ρ y = .string t := by kernel_rfl) : (execOp ρ ⟨dst, .binOp .eql T x y T2, ty, pos, aft, gd⟩).run P w = .ok (.value (.bool r)) w := by
 subst hr
 simp only [execOp, hx, hy]
 by_cases h : s = t
 ·subst h; simp [binOp, go_sem, Op.stringOp]
 ·have h2 : ¬s.toList = t.toList := fun e => by
   rw [ByteArray.toList_eq, ByteArray.toList_eq] at e
   refine h ?_
   obtain ⟨⟨l⟩⟩ := s
   obtain ⟨⟨m⟩⟩ := t
   exact congrArg (fun l : List UInt8 => (⟨⟨l⟩⟩ : ByteArray)) e
  simp [binOp, go_sem, Op.stringOp, h, h2]
theorem run_cat {s t : ByteArray} (hx : ρ x = .string s) (hy : ρ y = .string t) (h : s.size + t.size ≤ 9223372036854775807) : (execOp ρ ⟨dst, .binOp .add T x y T2, ty, pos, aft, gd⟩).run P w = .ok (.value (.string (s ++ t))) w := by
 simp only [execOp, hx, hy]
 simp [binOp, go_sem, h]
theorem run_addr_slice {q n m : Nat} {e : TypeId} (hT : P.underlying T = some (.slice e)) (hs : ∀ w, (sizeOf e).run P w = .ok 1 w) (hx : ρ x = .slice (some ⟨q, 0, none⟩) n m) (hy : ρ y = iN .i64 a) (ha : a < n) : (execOp ρ ⟨dst, .indexAddr T x y, ty, pos, aft, gd⟩).run P w = .ok (.value (.pointer (some ⟨q, a, none⟩))) w := by
 simp only [execOp, hx, hy, iN]
 have hu : ∀ w, (underlying T).run P w = .ok (.slice e) w := fun w => by simp [underlying, go_sem, hT]
 simp [go_sem, Instr.indexAt, hu, hs, ha]
theorem run_load1 {q i : Nat} {v : Value} (hg : ∀ w, (isAgg T).run P w = .ok false w)  (h : w.cell? ⟨q, i, none⟩ = some v) (hx : ρ x = .pointer (some ⟨q, i, none⟩) := by kernel_rfl) : (execOp ρ ⟨dst, .load T x, ty, pos, aft, gd⟩).run P w = .ok (.value v) w := by
 simp only [execOp, hx]
 simp [go_sem, h, hg]
end
theorem wp_count {P : Program} {Q : Exit → Act → World → Prop} {c : Code} (I : Nat → Act → World → Prop) (n : Nat) {a : Act} {w : World} (h0 : I 0 a w)
  (round : ∀ i, i < n → ∀ a w, I i a w → c.wp P (Exit.then (I (i + 1)) Q) a w) (last : ∀ a w, I n a w → c.wp P (Exit.then (fun _ _ => False) Q) a w) : (Code.loop c).wp P Q a w := by
 have key : ∀ m i a w, i + m = n → I i a w → Code.rounds P c Q (m + 1) a w := by
  intro m
  induction m with
  | zero =>
   intro i a w hi hI
   rw [Nat.add_zero] at hi
   subst hi
   exact last a w hI
  | succ m ih =>
   intro i a w hi hI
   rw [rounds_succ]
   exact Code.wp_mono (fun e a w he => by cases e <;> first | exact ih (i + 1) a w (by omega) he | exact he) (round i (by omega) a w hI)
 exact wp_loop_rounds (n + 1) (key n 0 a w (by omega) h0)
section
variable {P : Program} {Q : Exit → Act → World → Prop} {a : Act} {w : World} {w0 : Base} {L : List (Nat × TypeId × Array Value)}
theorem then_exit {K : Act → World → Prop} {i : Nat} (h : Q (.exit i) a w) : Exit.then K Q (.exit i) a w := h
theorem block_exit {i : Nat} (h : Q .normal a w) : Exit.inBlock i Q (.exit i) a w := by
 show (if i = i then Q .normal a w else Q (.exit i) a w)
 rw [if_pos rfl]
 exact h
theorem block_exit_ne {i j : Nat} (hne : j ≠ i) (h : Q (.exit j) a w) : Exit.inBlock i Q (.exit j) a w := by
 show (if j = i then Q .normal a w else Q (.exit j) a w)
 rw [if_neg hne]
 exact h
theorem block_normal {i : Nat} (h : Q .normal a w) : Exit.inBlock i Q .normal a w := h
theorem block_ret {i : Nat} (h : Q .ret a w) : Exit.inBlock i Q .ret a w := h
theorem then_I {K : Act → World → Prop} (h : K a w) : Exit.then K Q .normal a w := h
theorem HA.put (h : HA w0 L w) (i : Nat) {q : Nat} {t : TypeId} {c : Array Value} (hi : L[i]? = some (q, t, c)) (j : Nat) (v : Value) : HA w0 (L.set i (q, t, c.setIfInBounds j v)) (w.setCell ⟨q, j, none⟩ v) := by
 have hlt : i < L.length := (List.getElem?_eq_some_iff.1 hi).1
 have hmap : (L.set i (q, t, c.setIfInBounds j v)).map (·.1) = L.map (·.1) := by
  rw [List.map_set]
  refine List.ext_getElem? fun m => ?_
  by_cases hm : i = m
  ·subst hm
   rw [List.getElem?_set_self (by simpa using hlt), List.getElem?_map, hi]
   rfl
  ·rw [List.getElem?_set_ne hm]
 have hq := h.own _ (List.mem_of_getElem? hi)
 refine ⟨h.old.setCell hq (h.get i hi) v, fun x hx => ?_, fun x hx => ?_, by rw [hmap]; exact h.nd⟩
 ·obtain ⟨m, hm⟩ := List.mem_iff_getElem?.1 hx
  by_cases him : i = m
  ·subst him
   rw [List.getElem?_set_self hlt] at hm
   obtain rfl := Option.some.inj hm
   exact (h.get i hi).set j v
  ·rw [List.getElem?_set_ne him] at hm
   refine Blk.far (h.get m hm) (fun e => him ?_)
   have h1 : (L.map (·.1))[i]? = some q := by rw [List.getElem?_map, hi]; rfl
   have h2 : (L.map (·.1))[m]? = some q := by rw [List.getElem?_map, hm]; exact congrArg some e
   exact (List.getElem?_inj (by simpa using hlt) h.nd).1 (h1.trans h2.symm)
 ·have : x.1 ∈ L.map (·.1) := by rw [← hmap]; exact List.mem_map.2 ⟨x, hx, rfl⟩
  obtain ⟨y, hy, e⟩ := List.mem_map.1 this
  rw [← e]
  exact h.own y hy
set_option linter.unusedSimpArgs false in
theorem res_cell {fn : Func} {p : Tmp} {t ty : TypeId} {ts : Array Value} {q : Nat} {c : Array Value} {D : TypeDesc} (hf : fn.results = #[.cell p ty]) (ht : ts.getD p undef = .pointer (some ⟨q, 0, none⟩)) (h : Blk w q t c) (hu : P.underlying ty = some D) (hd : D.isRow = true) (hi : (P.info? ty).map (·.size) = some c.size) :
  (results fn ts).run P w = .ok (.agg c) w := by
 have := run_loadVar_mid (P := P) w q 0 ty c.toList D h.range hu hd (by simpa using hi)
 have ht2 : ts[p]?.getD undef = .pointer (some ⟨q, 0, none⟩) := by simpa using ht
 simp [results, hf, Sem.run_bind, Sem.run_pure, Result.andThen_ok, asAddr, ht2, this]
set_option linter.unusedSimpArgs false in
theorem res_cell_tmp {fn : Func} {p r : Tmp} {t ty : TypeId} {ts : Array Value} {q : Nat} {c : Array Value} {D : TypeDesc} {v : Value} (hf : fn.results = #[.cell p ty, .tmp r]) (ht : ts.getD p undef = .pointer (some ⟨q, 0, none⟩)) (hv : ts.getD r undef = v) (h : Blk w q t c) (hu : P.underlying ty = some D) (hd : D.isRow = true) (hi : (P.info? ty).map (·.size) = some c.size) :
  (results fn ts).run P w = .ok (.tuple #[.agg c, v]) w := by
 have := run_loadVar_mid (P := P) w q 0 ty c.toList D h.range hu hd (by simpa using hi)
 have ht2 : ts[p]?.getD undef = .pointer (some ⟨q, 0, none⟩) := by simpa using ht
 have hv2 : ts[r]?.getD undef = v := by simpa using hv
 simp [results, hf, Sem.run_bind, Sem.run_pure, Result.andThen_ok, asAddr, ht2, hv2, this]
end
theorem zcn {P : Program} {Q : Exit → Act → World → Prop} {c : Code} {a : Act} (I : Act → Nat → Act → World → Prop) (n : Nat) {w : World} (h0 : I a 0 a w) (round : ∀ i, i < n → ∀ b w, I a i b w → c.wp P (Exit.then (I a (i + 1)) Q) b w) (last : ∀ b w, I a n b w → c.wp P (Exit.then (fun _ _ => False) Q) b w) : (Code.loop c).wp P Q a w := wp_count (I a) n h0 round last
abbrev i6 (n : Nat) : Value := iN .i64 n
abbrev d5 (a : Nat) (b : Option Addr) (c d : Nat) (e : Bool) (f : Nat) (g : Option Addr) (h i : Nat) : Array Value := #[iN .i64 a, .slice b c d, .bool e, iN .i64 f, .slice g h i]
abbrev d6 (a : Nat) (b : Option Addr) (c d : Nat) (e : Bool) (f : Nat) (g : Option Addr) (h i : Nat) (j : Option Addr) (k l : Nat) : Array Value := #[iN .i64 a, .slice b c d, .bool e, iN .i64 f, .slice g h i, .slice j k l]
abbrev d9 (s t : Value) (a : Nat) (b : Option Addr) (c d : Nat) (e : Bool) (f : Nat) (g : Option Addr) (h i : Nat) (j : Option Addr) (k l m : Nat) : Array Value := #[s, t, iN .i64 a, .slice b c d, .bool e, iN .i64 f, .slice g h i, .slice j k l, iN .i64 m]
abbrev x5 (a : Int) (b : Option Addr) (c d : Nat) (e : Option Addr) (f g : Nat) (h : Int) (i : Option Addr) (j k : Nat) : Array Value := #[.int .i64 a, .slice b c d, .slice e f g, .int .i64 h, .slice i j k]
end Go.Proofs.YtckmlaempffpjaaGreat
