/-
  Blocks as variables: whole loads, whole stores, new ones; a region that makes k variables out of k calls.
-/
import Derived.Test.YtiogegoepgkjlaaGhost
import Derived.Deep.MidRow
import Derived.Laws.Tables
import Derived.Deep.RegionHeld3
import Derived.BigCall
import Derived.Deep.WholeRow
import Derived.WalkKit
import Derived.WalkSpells
import Derived.Deep.QuietTactic
import Derived.BigQuiet
import Derived.BigRegion
namespace Go.Proofs.Ytiogegoepgkjlaa
open Go.RowKit

/-- the address of a block's first cell; nothing -/
def pt (q : Nat) : Value := .pointer (some ⟨q, 0, none⟩)
def un : Value := undef

/-- a block's cells; what is frozen, if anything, lies behind them -/
def Blk (w : World) (q : Nat) (t : TypeId) (c : Array Value) : Prop := ∃ f : Nat × Nat, w.heap[q]? = some (.cells c t f) ∧ (f = (0, 0) ∨ (t = 5 ∧ c.size ≤ f.1))
theorem Blk.lt {w : World} {q : Nat} {t : TypeId} {c : Array Value} (h : Blk w q t c) : q < w.heap.size := by
  obtain ⟨f, h, _⟩ := h
  exact lt_of_block h
theorem Blk.at' {w w' : World} {q : Nat} {t : TypeId} {c : Array Value} (h : Blk w q t c) (e : w'.heap[q]? = w.heap[q]?) : Blk w' q t c := by
  obtain ⟨f, h, hf⟩ := h
  exact ⟨f, e.trans h, hf⟩
theorem Blk.keep {w w' : World} {q : Nat} {t : TypeId} {c : Array Value} (h : Blk w q t c) (hb : Below w.heap.size w w') : Blk w' q t c := h.at' (hb.block q h.lt)
theorem Blk.drew {w : World} {q : Nat} {t : TypeId} {c : Array Value} (h : Blk w q t c) : Blk w.drew q t c := h
theorem Blk.alloc {w : World} {q : Nat} {t : TypeId} {c : Array Value} (h : Blk w q t c) (o : Obj) : Blk (w.alloc o) q t c := h.at' (Below.heap_alloc w o q h.lt)
theorem Blk.new (w : World) (t : TypeId) (c : Array Value) : Blk (w.alloc (.cells c t)) w.heap.size t c := ⟨(0, 0), heap_alloc_last w _, .inl rfl⟩
theorem Blk.cell {w : World} {q : Nat} {t : TypeId} {c : Array Value} (h : Blk w q t c) (i : Nat) : w.cell? ⟨q, i, none⟩ = c[i]? := by
  obtain ⟨f, h, _⟩ := h
  exact cell_of_row w q i c t _ h
theorem Blk.free {w : World} {q : Nat} {t : TypeId} {c : Array Value} (h : Blk w q t c) (i : Nat) (hi : i < c.size) : w.frozen? ⟨q, i, none⟩ = false := by
  obtain ⟨f, h, hf⟩ := h
  rcases hf with rfl | ⟨_, hf⟩
  · simp [World.frozen?, h]
  · obtain ⟨lo, hi'⟩ := f
    simp only [World.frozen?, h]
    simp only at hf
    simp only [Bool.and_eq_false_iff, decide_eq_false_iff_not]
    left
    omega
theorem Blk.range {w : World} {q : Nat} {t : TypeId} {c : Array Value} (h : Blk w q t c) : w.rangeAt q 0 c.toList := fun j v hv => by
  rw [Nat.zero_add, h.cell j]
  simpa using hv
theorem Blk.there {w : World} {q : Nat} {t : TypeId} {c : Array Value} (h : Blk w q t c) : w.there q 0 c.size := fun j hj => by
  rw [Nat.zero_add]
  exact ⟨by rw [h.cell j]; simp [hj], h.free j hj⟩
theorem Blk.set {w : World} {q : Nat} {t : TypeId} {c : Array Value} (h : Blk w q t c) (i : Nat) (v : Value) : Blk (w.setCell ⟨q, i, none⟩ v) q t (c.setIfInBounds i v) := by
  obtain ⟨f, h, hf⟩ := h
  refine ⟨f, ?_, by rw [Array.size_setIfInBounds]; exact hf⟩
  rw [setCell_eq_setRow w q i c t f v h, setRow_heap w q _ _ t f h]
theorem Blk.far {w : World} {q b i : Nat} {t : TypeId} {c : Array Value} {v : Value} (h : Blk w q t c) (hne : q ≠ b) : Blk (w.setCell ⟨b, i, none⟩ v) q t c := h.at' (Below.heap_setCell w ⟨b, i, none⟩ v q hne)
theorem Blk.fars {q b : Nat} {t : TypeId} {c : Array Value} (hne : q ≠ b) : ∀ (vs : List Value) (o : Nat) (w : World), Blk w q t c → Blk (w.setCells b o vs) q t c
  | [], _, _, h => h
  | _ :: r, o, _, h => Blk.fars hne r (o + 1) _ (h.far hne)
theorem setCells_size (b : Nat) : ∀ (vs : List Value) (o : Nat) (w : World), (w.setCells b o vs).heap.size = w.heap.size
  | [], _, _ => rfl
  | v :: r, o, w => by rw [World.setCells, setCells_size b r]; simp
theorem below_setCells {B b : Nat} (hb : B ≤ b) : ∀ (vs : List Value) (o : Nat) {w0 w : World}, Below B w0 w → Below B w0 (w.setCells b o vs)
  | [], _, _, _, h => h
  | v :: r, o, _, _, h => below_setCells hb r (o + 1) (h.setCell (p := ⟨b, o, none⟩) hb v)
theorem Blk.sets {q : Nat} {t : TypeId} : ∀ (vs : List Value) (o : Nat) (w : World) (c : Array Value), Blk w q t c → o + vs.length ≤ c.size → Blk (w.setCells q o vs) q t ((c.toList.take o ++ vs ++ c.toList.drop (o + vs.length)).toArray)
  | [], o, w, c, h, _ => by
    have : (c.toList.take o ++ [] ++ c.toList.drop (o + 0)).toArray = c := by simp
    show Blk w q t ((c.toList.take o ++ [] ++ c.toList.drop (o + 0)).toArray)
    rw [this]
    exact h
  | v :: r, o, w, c, h, hs => by
    have hlt : o < c.size := by simp at hs; omega
    have h1 := Blk.sets r (o + 1) _ _ (h.set o v) (by simp at hs ⊢; omega)
    have e : (((c.setIfInBounds o v).toList.take (o + 1) ++ r ++ (c.setIfInBounds o v).toList.drop (o + 1 + r.length)).toArray) = ((c.toList.take o ++ (v :: r) ++ c.toList.drop (o + (v :: r).length)).toArray) := by
      congr 1
      rw [Array.toList_setIfInBounds, List.take_set, List.drop_set_of_lt (by omega)]
      have h2 : (c.toList.take (o + 1)).set o v = c.toList.take o ++ [v] := by
        rw [List.take_add_one, List.set_append_right _ _ (by simp; omega)]
        have : o - (c.toList.take o).length = 0 := by simp; omega
        rw [this, List.getElem?_eq_getElem (by simpa using hlt)]
        rfl
      rw [h2]
      simp [Nat.add_assoc, Nat.add_comm 1]
    rw [e] at h1
    exact h1
theorem Blk.whole {w : World} {q : Nat} {t : TypeId} {c c' : Array Value} (h : Blk w q t c) (hs : c'.size = c.size) : Blk (w.setCells q 0 c'.toList) q t c' := by
  have h1 := Blk.sets c'.toList 0 w c h (by simp [hs])
  have e : (c.toList.take 0 ++ c'.toList ++ c.toList.drop (0 + c'.toList.length)).toArray = c' := by
    rw [List.take_zero, List.nil_append, List.drop_eq_nil_of_le (by simp [hs]), List.append_nil]
  rw [e] at h1
  exact h1

section
variable {P : Program}
theorem run_load_blk {ρ : Operand → Value} {x : Operand} {q : Nat} {t ty : TypeId} {c : Array Value} {w : World} {dst : Option Tmp} {ty' : TypeId} {pos : String} {aft : Array Edge} {gd : Option (Nat × Bool)} {D : TypeDesc}
    (hx : ρ x = .pointer (some ⟨q, 0, none⟩)) (h : Blk w q t c) (hu : P.underlying ty = some D) (hd : D.isRow = true) (hi : (P.info? ty).map (·.size) = some c.size) : (execOp ρ ⟨dst, .load ty x, ty', pos, aft, gd⟩).run P w = .ok (.value (.agg c)) w := by
  simp only [execOp, hx, Instr.loadAt, Instr.sureAddr, Sem.run_bind, Sem.run_pure, Result.andThen_ok, run_loadVar_mid w q 0 ty c.toList D h.range hu hd (by simpa using hi)]
theorem run_store_blk {ρ : Operand → Value} {x y : Operand} {q : Nat} {t ty : TypeId} {c c' : Array Value} {w : World} {dst : Option Tmp} {ty' : TypeId} {pos : String} {aft : Array Edge} {gd : Option (Nat × Bool)}
    (hx : ρ x = .pointer (some ⟨q, 0, none⟩)) (hy : ρ y = .agg c') (h : Blk w q t c) (hs : c'.size = c.size) (hi : (P.info? ty).map (·.size) = some c'.size) (h1 : c'.all (·.oneCell') = true) :
    (execOp ρ ⟨dst, .store ty x y, ty', pos, aft, gd⟩).run P w = .ok .skip (w.setCells q 0 c'.toList) := by
  simp only [execOp, hx, hy, Instr.storeAt, Instr.sureAddr, Sem.run_bind, Sem.run_pure, Result.andThen_ok, run_storeVar_mid w q 0 ty c' (by rw [hs]; exact h.there) hi h1]
end

/-- k variables that a region makes: number a0 + j makes the j-th, number t0 + j fills it -/
structure NewV (k a0 t0 B : Nat) (t : TypeId) (z : Array Value) (val : Nat → Array Value) (g : Nat → Nat) (d : Nat → Bool) (w : World) : Prop where
  own : ∀ j, j < k → d (a0 + j) = true → B ≤ g (a0 + j) ∧ Blk w (g (a0 + j)) t (if d (t0 + j) = true then val j else z)
  ne : ∀ i j, i < k → j < k → i ≠ j → d (a0 + i) = true → d (a0 + j) = true → g (a0 + i) ≠ g (a0 + j)
  imp : ∀ j, j < k → d (t0 + j) = true → d (a0 + j) = true

variable {k a0 t0 B : Nat} {t : TypeId} {z : Array Value} {val : Nat → Array Value} {g : Nat → Nat} {d : Nat → Bool} {w : World}

theorem NewV.start (hd : ∀ j, j < t0 + k → d j = false) (hat : a0 + k ≤ t0) : NewV k a0 t0 B t z val g d w :=
  ⟨fun j hj h => absurd h (by rw [hd _ (by omega)]; decide), fun i j hi hj _ h => absurd h (by rw [hd _ (by omega)]; decide), fun j hj h => absurd h (by rw [hd _ (by omega)]; decide)⟩
theorem NewV.keep (h : NewV k a0 t0 B t z val g d w) {i : Nat} (hi : ∀ j, j < k → i ≠ a0 + j ∧ i ≠ t0 + j) {w' : World} (hb : Below w.heap.size w w') : NewV k a0 t0 B t z val g (up d i true) w' := by
  have e1 : ∀ j, j < k → up d i true (a0 + j) = d (a0 + j) := fun j hj => up_ne _ _ (Ne.symm (hi j hj).1)
  have e2 : ∀ j, j < k → up d i true (t0 + j) = d (t0 + j) := fun j hj => up_ne _ _ (Ne.symm (hi j hj).2)
  refine ⟨fun j hj h1 => ?_, fun i j hi hj hne h1 h2 => ?_, fun j hj h1 => ?_⟩
  · rw [e1 j hj] at h1
    rw [e2 j hj]
    exact ⟨(h.own j hj h1).1, (h.own j hj h1).2.keep hb⟩
  · rw [e1 i hi] at h1
    rw [e1 j hj] at h2
    exact h.ne i j hi hj hne h1 h2
  · rw [e1 j hj]; rw [e2 j hj] at h1
    exact h.imp j hj h1
theorem NewV.make (h : NewV k a0 t0 B t z val g d w) (hat : a0 + k ≤ t0) {i j : Nat} (hj : j < k) (hi : i = a0 + j) (hd : d i = false) (hB : B ≤ w.heap.size) :
    NewV k a0 t0 B t z val (up g i w.heap.size) (up d i true) (w.alloc (.cells z t)) := by
  subst hi
  have e1 : ∀ m, m ≠ j → up d (a0 + j) true (a0 + m) = d (a0 + m) := fun m hm => up_ne _ _ (by omega)
  have e2 : ∀ m, up d (a0 + j) true (t0 + m) = d (t0 + m) := fun m => up_ne _ _ (by omega)
  have e3 : ∀ m, m ≠ j → up g (a0 + j) w.heap.size (a0 + m) = g (a0 + m) := fun m hm => up_ne _ _ (by omega)
  have lt : ∀ m, m < k → d (a0 + m) = true → g (a0 + m) < w.heap.size := fun m hm h1 => (h.own m hm h1).2.lt
  have hT : d (t0 + j) = false := by
    cases ht : d (t0 + j) with
    | false => rfl
    | true => rw [h.imp j hj ht] at hd; cases hd
  refine ⟨fun m hm h1 => ?_, fun m n hm hn hne h1 h2 => ?_, fun m hm h1 => ?_⟩
  · by_cases hmj : m = j
    · subst hmj
      rw [up_at, e2, hT]
      exact ⟨hB, Blk.new w t z⟩
    · rw [e1 m hmj] at h1
      rw [e2, e3 m hmj]
      exact ⟨(h.own m hm h1).1, (h.own m hm h1).2.alloc _⟩
  · by_cases hmj : m = j
    · subst hmj
      rw [e1 n (Ne.symm hne)] at h2
      rw [up_at, e3 n (Ne.symm hne)]
      have := lt n hn h2
      omega
    · rw [e1 m hmj] at h1
      rw [e3 m hmj]
      by_cases hnj : n = j
      · subst hnj
        rw [up_at]
        have := lt m hm h1
        omega
      · rw [e1 n hnj] at h2
        rw [e3 n hnj]
        exact h.ne m n hm hn hne h1 h2
  · rw [e2] at h1
    by_cases hmj : m = j
    · subst hmj; exact up_at _ _ _
    · rw [e1 m hmj]; exact h.imp m hm h1
theorem NewV.fill (h : NewV k a0 t0 B t z val g d w) (hat : a0 + k ≤ t0) {i j : Nat} (hj : j < k) (hi : i = t0 + j) (hd : d i = false) (ha : d (a0 + j) = true) (hs : (val j).size = z.size) :
    NewV k a0 t0 B t z val g (up d i true) (w.setCells (g (a0 + j)) 0 (val j).toList) := by
  subst hi
  have e1 : ∀ m, m < k → up d (t0 + j) true (a0 + m) = d (a0 + m) := fun m hm => up_ne _ _ (by omega)
  have e2 : ∀ m, m ≠ j → up d (t0 + j) true (t0 + m) = d (t0 + m) := fun m hm => up_ne _ _ (by omega)
  refine ⟨fun m hm h1 => ?_, fun m n hm hn hne h1 h2 => ?_, fun m hm h1 => ?_⟩
  · rw [e1 m hm] at h1
    refine ⟨(h.own m hm h1).1, ?_⟩
    by_cases hmj : m = j
    · subst hmj
      rw [up_at, if_pos rfl]
      have := (h.own m hm h1).2
      rw [hd, if_neg (by decide)] at this
      exact this.whole hs
    · rw [e2 m hmj]
      exact Blk.fars (h.ne m j hm hj hmj h1 ha) _ _ _ (h.own m hm h1).2
  · rw [e1 m hm] at h1
    rw [e1 n hn] at h2
    exact h.ne m n hm hn hne h1 h2
  · rw [e1 m hm]
    by_cases hmj : m = j
    · subst hmj; exact ha
    · rw [e2 m hmj] at h1
      exact h.imp m hm h1

/-- old memory, and maps -/
structure Base where
  w : World
  M : List (Nat × Array MapEntry × Nat)
def bs (w : World) : Base := ⟨w, []⟩
def Base.size (z : Base) : Nat := z.w.heap.size
structure Old (z : Base) (w : World) : Prop where
  old : Below z.w.heap.size z.w w
  maps : ∀ m ∈ z.M, w.heap[m.1]? = some (.map m.2.1 m.2.2)
  mown : ∀ m ∈ z.M, z.w.heap.size ≤ m.1
  mnd : (z.M.map (·.1)).Nodup
section
variable {z : Base} {w w' : World}
theorem Old.size (h : Old z w) : z.size ≤ w.heap.size := h.old.size
theorem Old.start (w : World) : Old (bs w) w := ⟨Below.refl _ w, fun _ h => (by cases h), fun _ h => (by cases h), List.nodup_nil⟩
theorem Old.keep (h : Old z w) (hb : Below w.heap.size w w') : Old z w' := ⟨h.old.trans (hb.mono h.old.size), fun m hm => (hb.block m.1 (lt_of_block (h.maps m hm))).trans (h.maps m hm), h.mown, h.mnd⟩
theorem Old.drew (h : Old z w) : Old z w.drew := ⟨h.old.drew, h.maps, h.mown, h.mnd⟩
theorem Old.alloc (h : Old z w) (o : Obj) : Old z (w.alloc o) := ⟨h.old.alloc h.old.size _, fun m hm => (Below.heap_alloc w o m.1 (lt_of_block (h.maps m hm))).trans (h.maps m hm), h.mown, h.mnd⟩
theorem Old.far (h : Old z w) {q : Nat} {t : TypeId} {c : Array Value} (hb : Blk w q t c) : ∀ m ∈ z.M, m.1 ≠ q := fun m hm e => by
  obtain ⟨f, hf, _⟩ := hb
  have h1 := h.maps m hm
  rw [e, hf] at h1
  cases h1
theorem Old.setCell (h : Old z w) {q i : Nat} {t : TypeId} {c : Array Value} (hq : z.size ≤ q) (hb : Blk w q t c) (v : Value) : Old z (w.setCell ⟨q, i, none⟩ v) :=
  ⟨h.old.setCell (p := ⟨q, i, none⟩) hq v, fun m hm => (Below.heap_setCell w ⟨q, i, none⟩ v m.1 (h.far hb m hm)).trans (h.maps m hm), h.mown, h.mnd⟩
theorem Old.setCells {q : Nat} {t : TypeId} (hq : z.size ≤ q) : ∀ (vs : List Value) (o : Nat) {w : World} {c : Array Value}, Old z w → Blk w q t c → Old z (w.setCells q o vs)
  | [], _, _, _, h, _ => h
  | v :: vs, o, _, _, h, hb => Old.setCells hq vs (o + 1) (h.setCell hq hb v) (hb.set o v)
theorem Old.grown (h : Old z w) {q : Nat} {t : TypeId} {c : Array Value} (hq : z.size ≤ q) (hb : Blk w q t c) (hg : w.grownBy w' (some q)) : Old z w' :=
  ⟨h.old.grown hg h.old.size (fun k hk => by cases hk; exact hq), fun m hm => (hg.block m.1 (lt_of_block (h.maps m hm)) (fun e => h.far hb m hm (by simpa using e))).trans (h.maps m hm), h.mown, h.mnd⟩
end
/-- what is held: old memory, and blocks of one's own -/
structure HA (w0 : Base) (L : List (Nat × TypeId × Array Value)) (w : World) : Prop where
  old : Old w0 w
  blk : ∀ x ∈ L, Blk w x.1 x.2.1 x.2.2
  own : ∀ x ∈ L, w0.size ≤ x.1
  nd : (L.map (·.1)).Nodup
variable {w0 : Base} {L : List (Nat × TypeId × Array Value)}
theorem HA.keep (w w' : World) (h : HA w0 L w) (hb : Below w.heap.size w w') : HA w0 L w' := ⟨h.old.keep hb, fun x hx => (h.blk x hx).keep hb, h.own, h.nd⟩
theorem HA.get (h : HA w0 L w) (i : Nat) {x : Nat × TypeId × Array Value} (hi : L[i]? = some x) : Blk w x.1 x.2.1 x.2.2 := h.blk x (List.mem_of_getElem? hi)
theorem HA.drew (h : HA w0 L w) : HA w0 L w.drew := ⟨h.old.drew, fun x hx => (h.blk x hx).drew, h.own, h.nd⟩
theorem HA.start (w : World) : HA (bs w) [] w := ⟨Old.start w, fun _ h => (by cases h), fun _ h => (by cases h), List.nodup_nil⟩
theorem HA.size (h : HA w0 L w) : w0.size ≤ w.heap.size := h.old.size
theorem HA.make (h : HA w0 L w) (t : TypeId) (c : Array Value) : HA w0 ((w.heap.size, t, c) :: L) (w.alloc (.cells c t)) :=
  ⟨h.old.alloc _, fun x hx => by
    rcases List.mem_cons.1 hx with rfl | hx
    · exact Blk.new w t c
    · exact (h.blk x hx).alloc _, fun x hx => by
    rcases List.mem_cons.1 hx with rfl | hx
    · exact h.size
    · exact h.own x hx, by
    rw [List.map_cons, List.nodup_cons]
    refine ⟨fun hm => ?_, h.nd⟩
    obtain ⟨x, hx, e⟩ := List.mem_map.1 hm
    have := (h.blk x hx).lt
    simp at e
    omega⟩
/-- a block is filled anew -/
theorem HA.fill (h : HA w0 L w) (i : Nat) {q : Nat} {t : TypeId} {c c' : Array Value} (hi : L[i]? = some (q, t, c)) (hs : c'.size = c.size) : HA w0 (L.set i (q, t, c')) (w.setCells q 0 c'.toList) := by
  have hlt : i < L.length := (List.getElem?_eq_some_iff.1 hi).1
  have hmap : (L.set i (q, t, c')).map (·.1) = L.map (·.1) := by
    rw [List.map_set]
    refine List.ext_getElem? fun j => ?_
    by_cases hj : i = j
    · subst hj
      rw [List.getElem?_set_self (by simpa using hlt), List.getElem?_map, hi]
      rfl
    · rw [List.getElem?_set_ne hj]
  have hq := h.own _ (List.mem_of_getElem? hi)
  refine ⟨Old.setCells hq _ _ h.old (h.get i hi), fun x hx => ?_, fun x hx => ?_, by rw [hmap]; exact h.nd⟩
  · obtain ⟨j, hj⟩ := List.mem_iff_getElem?.1 hx
    by_cases hij : i = j
    · subst hij
      rw [List.getElem?_set_self hlt] at hj
      obtain rfl := Option.some.inj hj
      exact (h.get i hi).whole hs
    · rw [List.getElem?_set_ne hij] at hj
      refine Blk.fars (fun e => hij ?_) _ _ _ (h.get j hj)
      have h1 : (L.map (·.1))[i]? = some q := by rw [List.getElem?_map, hi]; rfl
      have h2 : (L.map (·.1))[j]? = some q := by rw [List.getElem?_map, hj]; exact congrArg some e
      exact (List.getElem?_inj (by simpa using hlt) h.nd).1 (h1.trans h2.symm)
  · obtain ⟨j, hj⟩ := List.mem_iff_getElem?.1 hx
    have : x.1 ∈ L.map (·.1) := by rw [← hmap]; exact List.mem_map.2 ⟨x, hx, rfl⟩
    obtain ⟨y, hy, e⟩ := List.mem_map.1 this
    rw [← e]
    exact h.own y hy

/-- what a region that makes k variables holds: old memory, blocks, the variables -/
structure GS (w0 : Base) (L : List (Nat × TypeId × Array Value)) (B : Nat) (k a0 t0 : Nat) (t : TypeId) (z : Array Value) (val : Nat → Array Value) (g : Nat → Nat) (d : Nat → Bool) (w : World) : Prop where
  held : HA w0 L w
  big : B ≤ w.heap.size
  low : w0.size ≤ B
  lt : ∀ x ∈ L, x.1 < B
  new : NewV k a0 t0 B t z val g d w
  hat : a0 + k ≤ t0
  siz : ∀ j, j < k → (val j).size = z.size
theorem GS.call (h : GS w0 L B k a0 t0 t z val g d w) {i : Nat} (hi : ∀ j, j < k → i ≠ a0 + j ∧ i ≠ t0 + j) {w' : World} (hb : Below w.heap.size w w') : GS w0 L B k a0 t0 t z val g (up d i true) w' :=
  ⟨h.held.keep _ _ hb, Nat.le_trans h.big hb.size, h.low, h.lt, h.new.keep hi hb, h.hat, h.siz⟩
theorem GS.load (h : GS w0 L B k a0 t0 t z val g d w) {i : Nat} (hi : ∀ j, j < k → i ≠ a0 + j ∧ i ≠ t0 + j) : GS w0 L B k a0 t0 t z val g (up d i true) w := h.call hi (Below.refl _ w)
theorem GS.make (h : GS w0 L B k a0 t0 t z val g d w) {i j : Nat} (hj : j < k) (hi : i = a0 + j) (hd : d i = false) :
    GS w0 L B k a0 t0 t z val (up g i w.heap.size) (up d i true) (w.alloc (.cells z t)) :=
  ⟨⟨h.held.old.alloc _, fun x hx => (h.held.blk x hx).alloc _, h.held.own, h.held.nd⟩, by have := h.big; simp; omega, h.low, h.lt, h.new.make h.hat hj hi hd h.big, h.hat, h.siz⟩
theorem GS.fill (h : GS w0 L B k a0 t0 t z val g d w) {i j : Nat} (hj : j < k) (hi : i = t0 + j) (hd : d i = false) (ha : d (a0 + j) = true) :
    GS w0 L B k a0 t0 t z val g (up d i true) (w.setCells (g (a0 + j)) 0 (val j).toList) := by
  have hB := (h.new.own j hj ha).1
  exact ⟨⟨Old.setCells (Nat.le_trans h.low hB) _ _ h.held.old (h.new.own j hj ha).2, fun x hx => Blk.fars (by have := h.lt x hx; omega) _ _ _ (h.held.blk x hx), h.held.own, h.held.nd⟩, by rw [setCells_size]; exact h.big, h.low, h.lt, h.new.fill h.hat hj hi hd ha (h.siz j hj), h.hat, h.siz⟩
theorem GS.start (h : HA w0 L w) (hB : B = w.heap.size) (hat : a0 + k ≤ t0) (siz : ∀ j, j < k → (val j).size = z.size) (hd : ∀ j, j < t0 + k → d j = false) : GS w0 L B k a0 t0 t z val g d w :=
  ⟨h, by omega, by have := h.size; omega, fun x hx => by have := (h.blk x hx).lt; omega, NewV.start hd hat, hat, siz⟩
/-- one more of the variables -/
theorem GS.more {M : List (Nat × TypeId × Array Value)} (h : GS w0 L B k a0 t0 t z val g (fun _ => true) w) (j : Nat) (hj : j < k) (hM : HA w0 M w) (hL : ∀ x ∈ M, x ∈ L ∨ ∃ i, i < j ∧ x.1 = g (a0 + i)) : HA w0 ((g (a0 + j), t, val j) :: M) w := by
  have h1 := h.new.own j hj rfl
  refine ⟨hM.old, fun x hx => ?_, fun x hx => ?_, ?_⟩
  · rcases List.mem_cons.1 hx with rfl | hx
    · exact h1.2
    · exact hM.blk x hx
  · rcases List.mem_cons.1 hx with rfl | hx
    · exact Nat.le_trans h.low h1.1
    · exact hM.own x hx
  · rw [List.map_cons, List.nodup_cons]
    refine ⟨fun hm => ?_, hM.nd⟩
    obtain ⟨x, hx, e⟩ := List.mem_map.1 hm
    simp only at e
    rcases hL x hx with hx | ⟨i, hi, hxi⟩
    · have := h.lt x hx
      omega
    · rw [hxi] at e
      exact h.new.ne i j (by omega) hj (by omega) rfl rfl e
theorem GS.one (h : GS w0 L B 1 a0 t0 t z val g (fun _ => true) w) : HA w0 ((g (a0 + 0), t, val 0) :: L) w := h.more 0 (by decide) h.held fun _ hx => .inl hx
theorem GS.two (h : GS w0 L B 2 a0 t0 t z val g (fun _ => true) w) : HA w0 ((g (a0 + 1), t, val 1) :: (g (a0 + 0), t, val 0) :: L) w :=
  h.more 1 (by decide) (h.more 0 (by decide) h.held fun _ hx => .inl hx) fun x hx => by
    rcases List.mem_cons.1 hx with rfl | hx
    · exact .inr ⟨0, by decide, rfl⟩
    · exact .inl hx
theorem GS.three (h : GS w0 L B 3 a0 t0 t z val g (fun _ => true) w) : HA w0 ((g (a0 + 2), t, val 2) :: (g (a0 + 1), t, val 1) :: (g (a0 + 0), t, val 0) :: L) w :=
  h.more 2 (by decide) (h.more 1 (by decide) (h.more 0 (by decide) h.held fun _ hx => .inl hx) fun x hx => by
    rcases List.mem_cons.1 hx with rfl | hx
    · exact .inr ⟨0, by decide, rfl⟩
    · exact .inl hx) fun x hx => by
    rcases List.mem_cons.1 hx with rfl | hx
    · exact .inr ⟨1, by decide, rfl⟩
    · rcases List.mem_cons.1 hx with rfl | hx
      · exact .inr ⟨0, by decide, rfl⟩
      · exact .inl hx

/-- what a region holds that makes blocks and writes into none of them: number x.1 makes a block of type x.2.1 with the cells x.2.2 -/
structure GM (w0 : Base) (L M : List (Nat × TypeId × Array Value)) (g : Nat → Nat) (d : Nat → Bool) (w : World) : Prop where
  held : HA w0 L w
  made : ∀ x ∈ M, d x.1 = true → Blk w (g x.1) x.2.1 x.2.2
variable {M : List (Nat × TypeId × Array Value)}
theorem GM.start (h : HA w0 L w) (n : Nat) (hM : M.all (fun x => decide (x.1 < n)) = true) (hd : ∀ j, j < n → d j = false) : GM w0 L M g d w :=
  ⟨h, fun x hx h1 => by
    have := hd x.1 (of_decide_eq_true (List.all_eq_true.1 hM x hx))
    rw [h1] at this
    cases this⟩
theorem GM.call (h : GM w0 L M g d w) {i : Nat} (hi : M.all (fun x => x.1 != i) = true) {w' : World} (hb : Below w.heap.size w w') : GM w0 L M g (up d i true) w' :=
  ⟨h.held.keep _ _ hb, fun x hx h1 => by
    have hne : x.1 ≠ i := bne_iff_ne.1 (List.all_eq_true.1 hi x hx)
    rw [up_ne _ _ hne] at h1
    exact (h.made x hx h1).keep hb⟩
theorem GM.make (h : GM w0 L M g d w) {i : Nat} {t : TypeId} {c : Array Value} (hi : M.all (fun x => x.1 != i || (decide (x.2.1 = t))) = true) (hc : ∀ x ∈ M, x.1 = i → x.2.2 = c) : GM w0 L M (up g i w.heap.size) (up d i true) (w.alloc (.cells c t)) :=
  ⟨⟨h.held.old.alloc _, fun x hx => (h.held.blk x hx).alloc _, h.held.own, h.held.nd⟩, fun x hx h1 => by
    by_cases hne : x.1 = i
    · have h2 := List.all_eq_true.1 hi x hx
      simp only [hne, bne_self_eq_false, Bool.false_or] at h2
      rw [hne, up_at, of_decide_eq_true h2, hc x hx hne]
      exact Blk.new w t c
    · rw [up_ne _ _ hne] at h1 ⊢
      exact (h.made x hx h1).alloc _⟩
theorem GM.get (h : GM w0 L M g d w) (i : Nat) {x : Nat × TypeId × Array Value} (hi : M[i]? = some x) (hd : d x.1 = true) : Blk w (g x.1) x.2.1 x.2.2 := h.made x (List.mem_of_getElem? hi) hd

/-! a region in the order of the text -/
section
variable {P : Program} {ops : Array Oper} {Q : Exit → Act → World → Prop} {a : Act} {rest : List Oper} {dst : Option Tmp} {ty ty' : TypeId} {pos : String} {aft : Array Edge} {gd : Option (Nat × Bool)}
/-- a list of operations that nothing unfolds -/
structure WL (P : Program) (ops : Array Oper) (Q : Exit → Act → World → Prop) (l : List Oper) (a : Act) (w : World) : Prop where
  out : wpList P ops Q l a w
theorem wl_region {id : Nat} (h : WL P ops Q ops.toList a w) : (Code.region id ops false).wp P Q a w := wp_region_list h.out
theorem wl_nil (h : Q .normal a w) : WL P ops Q [] a w := ⟨h⟩
theorem wl_val {o : Oper} (v : Value) (hw : Region.wanted o (yielded ops a.tmps) = true) (hr : (execOp a.eval o).run P w = .ok (.value v) w) (h : WL P ops Q rest (a.put o.dst v) w) : WL P ops Q (o :: rest) a w := by
  refine ⟨?_⟩
  unfold wpList
  rw [if_pos hw]
  refine .inl ?_
  unfold Oper.wp
  rw [hr]
  exact h.out
theorem zv {o : Oper} (v : Value) (h : WL P ops Q rest (a.put o.dst v) w) (hw : Region.wanted o (yielded ops a.tmps) = true := by kernel_rfl) (hr : (execOp a.eval o).run P w = .ok (.value v) w := by kernel_rfl) : WL P ops Q (o :: rest) a w := wl_val v hw hr h
theorem zu {o : Oper} (v : Value) (hr : (execOp a.eval o).run P w = .ok (.value v) w) (h : WL P ops Q rest (a.put o.dst v) w) (hw : Region.wanted o (yielded ops a.tmps) = true := by kernel_rfl) : WL P ops Q (o :: rest) a w := wl_val v hw hr h
theorem wl_skip {o : Oper} (hw : Region.wanted o (yielded ops a.tmps) = false) (h : WL P ops Q rest (a.put o.dst undef) w) : WL P ops Q (o :: rest) a w := by
  refine ⟨?_⟩
  unfold wpList
  rw [if_neg (by rw [hw]; decide)]
  exact h.out
theorem zk {o : Oper} (h : WL P ops Q rest (a.put o.dst undef) w) (hw : Region.wanted o (yielded ops a.tmps) = false := by kernel_rfl) : WL P ops Q (o :: rest) a w := wl_skip hw h
theorem wl_load {x : Operand} {e : Nat × TypeId × Array Value} {D : TypeDesc} (H : HA w0 L w) (i : Nat) (hi : L[i]? = some e) (hw : Region.wanted ⟨dst, .load ty x, ty', pos, aft, gd⟩ (yielded ops a.tmps) = true)
    (hx : a.eval x = .pointer (some ⟨e.1, 0, none⟩)) (hu : P.underlying ty = some D) (hd : D.isRow = true) (hz : (P.info? ty).map (·.size) = some e.2.2.size) (h : WL P ops Q rest (a.put dst (.agg e.2.2)) w) :
    WL P ops Q (⟨dst, .load ty x, ty', pos, aft, gd⟩ :: rest) a w := wl_val _ hw (run_load_blk hx (H.get i hi) hu hd hz) h
theorem wl_make {c : Array Value} {o : Oper} (H : HA w0 L w) (t : TypeId) (hw : Region.wanted o (yielded ops a.tmps) = true) (hr : (execOp a.eval o).run P w = .ok (.value (.pointer (some ⟨w.heap.size, 0, none⟩))) (w.alloc (.cells c t)))
    (h : ∀ q w', HA w0 ((q, t, c) :: L) w' → WL P ops Q rest (a.put o.dst (.pointer (some ⟨q, 0, none⟩))) w') : WL P ops Q (o :: rest) a w := by
  refine ⟨?_⟩
  unfold wpList
  rw [if_pos hw]
  refine .inl ?_
  unfold Oper.wp
  rw [hr]
  exact (h _ _ (H.make t c)).out
theorem wl_fill {x y : Operand} {q : Nat} {t : TypeId} {c c' : Array Value} (H : HA w0 L w) (i : Nat) (hi : L[i]? = some (q, t, c)) (hw : Region.wanted ⟨dst, .store ty x y, ty', pos, aft, gd⟩ (yielded ops a.tmps) = true)
    (hx : a.eval x = .pointer (some ⟨q, 0, none⟩)) (hy : a.eval y = .agg c') (hs : c'.size = c.size) (hz : (P.info? ty).map (·.size) = some c'.size) (h1 : c'.all (·.oneCell') = true)
    (h : ∀ w', HA w0 (L.set i (q, t, c')) w' → WL P ops Q rest (a.put dst undef) w') : WL P ops Q (⟨dst, .store ty x y, ty', pos, aft, gd⟩ :: rest) a w := by
  refine ⟨?_⟩
  unfold wpList
  rw [if_pos hw]
  refine .inl ?_
  unfold Oper.wp
  rw [run_store_blk hx hy (H.get i hi) hs hz h1]
  exact (h _ (H.fill i hi hs)).out
theorem wl_call {f : FuncId} {xs : Array Operand} {ats : Array TypeId} {v : Value} (H : HA w0 L w) (hw : Region.wanted ⟨dst, .call { callee := .value (.func f), args := xs, argTypes := ats }, ty, pos, aft, gd⟩ (yielded ops a.tmps) = true)
    (hr : ∀ args w, (callFunc f args).run P w = .ok (.enter f args) w) (args : Array Value) (ha : #[] ++ xs.map a.eval ++ #[] = args) (hc : Calls P f args w fun e w' => e = .returned v ∧ Below w.heap.size w w')
    (h : ∀ w', HA w0 L w' → WL P ops Q rest (a.put dst v) w') : WL P ops Q (⟨dst, .call { callee := .value (.func f), args := xs, argTypes := ats }, ty, pos, aft, gd⟩ :: rest) a w := by
  refine ⟨?_⟩
  unfold wpList
  rw [if_pos hw]
  refine .inl ?_
  unfold Oper.wp
  rw [execOp_call_go, ha, hr]
  refine hc.mono ?_
  rintro e w' ⟨rfl, hb⟩
  exact (h _ (H.keep _ _ hb)).out
theorem zl {f : FuncId} {xs : Array Operand} {ats : Array TypeId} (v : Value) (H : HA w0 L w) (hr : ∀ args w, (callFunc f args).run P w = .ok (.enter f args) w) (args : Array Value) (hc : Calls P f args w fun e w' => e = .returned v ∧ Below w.heap.size w w') (h : ∀ w', HA w0 L w' → WL P ops Q rest (a.put dst v) w') (ha : #[] ++ xs.map a.eval ++ #[] = args := by kernel_rfl) (hw : Region.wanted ⟨dst, .call { callee := .value (.func f), args := xs, argTypes := ats }, ty, pos, aft, gd⟩ (yielded ops a.tmps) = true := by kernel_rfl) : WL P ops Q (⟨dst, .call { callee := .value (.func f), args := xs, argTypes := ats }, ty, pos, aft, gd⟩ :: rest) a w := wl_call H hw hr args ha hc h
/-- two ways through a piece of code meet -/
theorem wp_meet {c y : Code} (T : Act → World → Prop) (h : c.wp P (Exit.then T Q) a w) (k : ∀ a w, T a w → y.wp P Q a w) : c.wp P (Exit.then (y.wp P Q) Q) a w :=
  Code.wp_mono (fun e a w he => by cases e <;> first | exact k a w he | exact he) h
/-- the end of a region: the frame written out -/
theorem then_at {y : Code} {a F : Act} (h : a = F) (hq : y.wp P Q F w) : Exit.then (y.wp P Q) Q .normal a w := h ▸ hq
theorem then_ret {K : Act → World → Prop} (h : Q .ret a w) : Exit.then K Q .ret a w := h
end
/-- a frame's own slots -/
def ux (A : Act) (i : Nat) : Value := (A.1[i]?).getD undef
theorem tr {Q : Exit → Act → World → Prop} {K : Act → World → Prop} {a : Act} {w : World} (h : Q .ret a w) : Exit.then K Q .ret a w := h
theorem exu {A : Act} {G : (Nat → Value) → Act} {R : Prop} (h : A = G (ux A)) (r : R) : ∃ u, A = G u ∧ R := ⟨_, h, r⟩
theorem exm {A : Act} {G : (Nat → Value) → Act} {M R : Prop} (m : M) (h : A = G (ux A)) (r : R) : ∃ u, M ∧ A = G u ∧ R := ⟨_, m, h, r⟩
end Go.Proofs.Ytiogegoepgkjlaa
