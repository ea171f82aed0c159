/-
  Blocks as variables: whole loads, whole stores, new ones; a region that makes k variables out of k calls.
-/
import Derived.Test.YtbmfmamhidccbaaDoorGhost
import Derived.Deep.MidRow
import Derived.Laws.Tables
import Derived.Deep.RegionHeld3
import Derived.BigCall
import Derived.Deep.WholeRow
import Derived.WalkKit
import Derived.WalkSpells
import Derived.Deep.QuietTactic
import Derived.BigQuiet
import Derived.BigRegion
namespace Go.Proofs.YtbmfmamhidccbaaDoor
open Go.RowKit

def Blk (w : World) (q : Nat) (t : TypeId) (c : Array Value) : Prop := w.heap[q]? = some (.cells c t (0, 0))
theorem Blk.lt {w : World} {q : Nat} {t : TypeId} {c : Array Value} (h : Blk w q t c) : q < w.heap.size := lt_of_block h
theorem Blk.keep {w w' : World} {q : Nat} {t : TypeId} {c : Array Value} (h : Blk w q t c) (hb : Below w.heap.size w w') : Blk w' q t c := by
  unfold Blk
  rw [hb.block q h.lt]
  exact h
theorem Blk.drew {w : World} {q : Nat} {t : TypeId} {c : Array Value} (h : Blk w q t c) : Blk w.drew q t c := h
theorem Blk.alloc {w : World} {q : Nat} {t : TypeId} {c : Array Value} (h : Blk w q t c) (o : Obj) : Blk (w.alloc o) q t c := by
  unfold Blk
  rw [Below.heap_alloc w o q h.lt]
  exact h
theorem Blk.new (w : World) (t : TypeId) (c : Array Value) : Blk (w.alloc (.cells c t)) w.heap.size t c := heap_alloc_last w _
theorem Blk.cell {w : World} {q : Nat} {t : TypeId} {c : Array Value} (h : Blk w q t c) (i : Nat) : w.cell? ⟨q, i, none⟩ = c[i]? := cell_of_row w q i c t _ h
theorem Blk.free {w : World} {q : Nat} {t : TypeId} {c : Array Value} (h : Blk w q t c) (i : Nat) : w.frozen? ⟨q, i, none⟩ = false := by
  unfold Blk at h
  simp [World.frozen?, h]
theorem Blk.range {w : World} {q : Nat} {t : TypeId} {c : Array Value} (h : Blk w q t c) : w.rangeAt q 0 c.toList := fun j v hv => by
  rw [Nat.zero_add, h.cell j]
  simpa using hv
theorem Blk.there {w : World} {q : Nat} {t : TypeId} {c : Array Value} (h : Blk w q t c) : w.there q 0 c.size := fun j hj => by
  rw [Nat.zero_add]
  exact ⟨by rw [h.cell j]; simp [hj], h.free j⟩
theorem Blk.set {w : World} {q : Nat} {t : TypeId} {c : Array Value} (h : Blk w q t c) (i : Nat) (v : Value) : Blk (w.setCell ⟨q, i, none⟩ v) q t (c.setIfInBounds i v) := by
  unfold Blk
  rw [setCell_eq_setRow w q i c t (0, 0) v h, setRow_heap w q _ _ t (0, 0) h]
theorem Blk.far {w : World} {q b i : Nat} {t : TypeId} {c : Array Value} {v : Value} (h : Blk w q t c) (hne : q ≠ b) : Blk (w.setCell ⟨b, i, none⟩ v) q t c := by
  unfold Blk
  rw [Below.heap_setCell w ⟨b, i, none⟩ v q hne]
  exact h
theorem Blk.fars {q b : Nat} {t : TypeId} {c : Array Value} (hne : q ≠ b) : ∀ (vs : List Value) (o : Nat) (w : World), Blk w q t c → Blk (w.setCells b o vs) q t c
  | [], _, _, h => h
  | _ :: r, o, _, h => Blk.fars hne r (o + 1) _ (h.far hne)
theorem setCells_size (b : Nat) : ∀ (vs : List Value) (o : Nat) (w : World), (w.setCells b o vs).heap.size = w.heap.size
  | [], _, _ => rfl
  | v :: r, o, w => by rw [World.setCells, setCells_size b r]; simp
theorem below_setCells {B b : Nat} (hb : B ≤ b) : ∀ (vs : List Value) (o : Nat) {w0 w : World}, Below B w0 w → Below B w0 (w.setCells b o vs)
  | [], _, _, _, h => h
  | v :: r, o, _, _, h => below_setCells hb r (o + 1) (h.setCell (p := ⟨b, o, none⟩) hb v)
theorem Blk.sets {q : Nat} {t : TypeId} : ∀ (vs : List Value) (o : Nat) (w : World) (c : Array Value), Blk w q t c → o + vs.length ≤ c.size → Blk (w.setCells q o vs) q t ((c.toList.take o ++ vs ++ c.toList.drop (o + vs.length)).toArray)
  | [], o, w, c, h, _ => by
    have : (c.toList.take o ++ [] ++ c.toList.drop (o + 0)).toArray = c := by simp
    show Blk w q t ((c.toList.take o ++ [] ++ c.toList.drop (o + 0)).toArray)
    rw [this]
    exact h
  | v :: r, o, w, c, h, hs => by
    have hlt : o < c.size := by simp at hs; omega
    have h1 := Blk.sets r (o + 1) _ _ (h.set o v) (by simp at hs ⊢; omega)
    have e : (((c.setIfInBounds o v).toList.take (o + 1) ++ r ++ (c.setIfInBounds o v).toList.drop (o + 1 + r.length)).toArray) = ((c.toList.take o ++ (v :: r) ++ c.toList.drop (o + (v :: r).length)).toArray) := by
      congr 1
      rw [Array.toList_setIfInBounds, List.take_set, List.drop_set_of_lt (by omega)]
      have h2 : (c.toList.take (o + 1)).set o v = c.toList.take o ++ [v] := by
        rw [List.take_add_one, List.set_append_right _ _ (by simp; omega)]
        have : o - (c.toList.take o).length = 0 := by simp; omega
        rw [this, List.getElem?_eq_getElem (by simpa using hlt)]
        rfl
      rw [h2]
      simp [Nat.add_assoc, Nat.add_comm 1]
    rw [e] at h1
    exact h1
theorem Blk.whole {w : World} {q : Nat} {t : TypeId} {c c' : Array Value} (h : Blk w q t c) (hs : c'.size = c.size) : Blk (w.setCells q 0 c'.toList) q t c' := by
  have h1 := Blk.sets c'.toList 0 w c h (by simp [hs])
  have e : (c.toList.take 0 ++ c'.toList ++ c.toList.drop (0 + c'.toList.length)).toArray = c' := by
    rw [List.take_zero, List.nil_append, List.drop_eq_nil_of_le (by simp [hs]), List.append_nil]
  rw [e] at h1
  exact h1

section
variable {P : Program}
theorem run_load_blk {ρ : Operand → Value} {x : Operand} {q : Nat} {t ty : TypeId} {c : Array Value} {w : World} {dst : Option Tmp} {ty' : TypeId} {pos : String} {aft : Array Edge} {gd : Option (Nat × Bool)} {D : TypeDesc}
    (hx : ρ x = .pointer (some ⟨q, 0, none⟩)) (h : Blk w q t c) (hu : P.underlying ty = some D) (hd : D.isRow = true) (hi : (P.info? ty).map (·.size) = some c.size) : (execOp ρ ⟨dst, .load ty x, ty', pos, aft, gd⟩).run P w = .ok (.value (.agg c)) w := by
  simp only [execOp, hx, Instr.loadAt, Instr.sureAddr, Sem.run_bind, Sem.run_pure, Result.andThen_ok, run_loadVar_mid w q 0 ty c.toList D h.range hu hd (by simpa using hi)]
theorem run_store_blk {ρ : Operand → Value} {x y : Operand} {q : Nat} {t ty : TypeId} {c c' : Array Value} {w : World} {dst : Option Tmp} {ty' : TypeId} {pos : String} {aft : Array Edge} {gd : Option (Nat × Bool)}
    (hx : ρ x = .pointer (some ⟨q, 0, none⟩)) (hy : ρ y = .agg c') (h : Blk w q t c) (hs : c'.size = c.size) (hi : (P.info? ty).map (·.size) = some c'.size) (h1 : c'.all (·.oneCell') = true) :
    (execOp ρ ⟨dst, .store ty x y, ty', pos, aft, gd⟩).run P w = .ok .skip (w.setCells q 0 c'.toList) := by
  simp only [execOp, hx, hy, Instr.storeAt, Instr.sureAddr, Sem.run_bind, Sem.run_pure, Result.andThen_ok, run_storeVar_mid w q 0 ty c' (by rw [hs]; exact h.there) hi h1]
end

/-- k variables that a region makes: number a0 + j makes the j-th, number t0 + j fills it -/
structure NewV (k a0 t0 B : Nat) (t : TypeId) (z : Array Value) (val : Nat → Array Value) (g : Nat → Nat) (d : Nat → Bool) (w : World) : Prop where
  own : ∀ j, j < k → d (a0 + j) = true → B ≤ g (a0 + j) ∧ Blk w (g (a0 + j)) t (if d (t0 + j) = true then val j else z)
  ne : ∀ i j, i < k → j < k → i ≠ j → d (a0 + i) = true → d (a0 + j) = true → g (a0 + i) ≠ g (a0 + j)
  imp : ∀ j, j < k → d (t0 + j) = true → d (a0 + j) = true

variable {k a0 t0 B : Nat} {t : TypeId} {z : Array Value} {val : Nat → Array Value} {g : Nat → Nat} {d : Nat → Bool} {w : World}

theorem NewV.start (hd : ∀ j, j < t0 + k → d j = false) (hat : a0 + k ≤ t0) : NewV k a0 t0 B t z val g d w :=
  ⟨fun j hj h => absurd h (by rw [hd _ (by omega)]; decide), fun i j hi hj _ h => absurd h (by rw [hd _ (by omega)]; decide), fun j hj h => absurd h (by rw [hd _ (by omega)]; decide)⟩
theorem NewV.keep (h : NewV k a0 t0 B t z val g d w) (hat : a0 + k ≤ t0) {i : Nat} (hi : i < a0) {w' : World} (hb : Below w.heap.size w w') : NewV k a0 t0 B t z val g (up d i true) w' := by
  have e1 : ∀ j, up d i true (a0 + j) = d (a0 + j) := fun j => up_ne _ _ (by omega)
  have e2 : ∀ j, up d i true (t0 + j) = d (t0 + j) := fun j => up_ne _ _ (by omega)
  refine ⟨fun j hj h1 => ?_, fun i j hi hj hne h1 h2 => ?_, fun j hj h1 => ?_⟩
  · rw [e1] at h1
    rw [e2]
    exact ⟨(h.own j hj h1).1, (h.own j hj h1).2.keep hb⟩
  · rw [e1] at h1 h2
    exact h.ne i j hi hj hne h1 h2
  · rw [e1]; rw [e2] at h1
    exact h.imp j hj h1
theorem NewV.make (h : NewV k a0 t0 B t z val g d w) (hat : a0 + k ≤ t0) {i j : Nat} (hj : j < k) (hi : i = a0 + j) (hd : d i = false) (hB : B ≤ w.heap.size) :
    NewV k a0 t0 B t z val (up g i w.heap.size) (up d i true) (w.alloc (.cells z t)) := by
  subst hi
  have e1 : ∀ m, m ≠ j → up d (a0 + j) true (a0 + m) = d (a0 + m) := fun m hm => up_ne _ _ (by omega)
  have e2 : ∀ m, up d (a0 + j) true (t0 + m) = d (t0 + m) := fun m => up_ne _ _ (by omega)
  have e3 : ∀ m, m ≠ j → up g (a0 + j) w.heap.size (a0 + m) = g (a0 + m) := fun m hm => up_ne _ _ (by omega)
  have lt : ∀ m, m < k → d (a0 + m) = true → g (a0 + m) < w.heap.size := fun m hm h1 => (h.own m hm h1).2.lt
  have hT : d (t0 + j) = false := by
    cases ht : d (t0 + j) with
    | false => rfl
    | true => rw [h.imp j hj ht] at hd; cases hd
  refine ⟨fun m hm h1 => ?_, fun m n hm hn hne h1 h2 => ?_, fun m hm h1 => ?_⟩
  · by_cases hmj : m = j
    · subst hmj
      rw [up_at, e2, hT]
      exact ⟨hB, Blk.new w t z⟩
    · rw [e1 m hmj] at h1
      rw [e2, e3 m hmj]
      exact ⟨(h.own m hm h1).1, (h.own m hm h1).2.alloc _⟩
  · by_cases hmj : m = j
    · subst hmj
      rw [e1 n (Ne.symm hne)] at h2
      rw [up_at, e3 n (Ne.symm hne)]
      have := lt n hn h2
      omega
    · rw [e1 m hmj] at h1
      rw [e3 m hmj]
      by_cases hnj : n = j
      · subst hnj
        rw [up_at]
        have := lt m hm h1
        omega
      · rw [e1 n hnj] at h2
        rw [e3 n hnj]
        exact h.ne m n hm hn hne h1 h2
  · rw [e2] at h1
    by_cases hmj : m = j
    · subst hmj; exact up_at _ _ _
    · rw [e1 m hmj]; exact h.imp m hm h1
theorem NewV.fill (h : NewV k a0 t0 B t z val g d w) (hat : a0 + k ≤ t0) {i j : Nat} (hj : j < k) (hi : i = t0 + j) (hd : d i = false) (ha : d (a0 + j) = true) (hs : (val j).size = z.size) :
    NewV k a0 t0 B t z val g (up d i true) (w.setCells (g (a0 + j)) 0 (val j).toList) := by
  subst hi
  have e1 : ∀ m, m < k → up d (t0 + j) true (a0 + m) = d (a0 + m) := fun m hm => up_ne _ _ (by omega)
  have e2 : ∀ m, m ≠ j → up d (t0 + j) true (t0 + m) = d (t0 + m) := fun m hm => up_ne _ _ (by omega)
  refine ⟨fun m hm h1 => ?_, fun m n hm hn hne h1 h2 => ?_, fun m hm h1 => ?_⟩
  · rw [e1 m hm] at h1
    refine ⟨(h.own m hm h1).1, ?_⟩
    by_cases hmj : m = j
    · subst hmj
      rw [up_at, if_pos rfl]
      have := (h.own m hm h1).2
      rw [hd, if_neg (by decide)] at this
      exact this.whole hs
    · rw [e2 m hmj]
      exact Blk.fars (h.ne m j hm hj hmj h1 ha) _ _ _ (h.own m hm h1).2
  · rw [e1 m hm] at h1
    rw [e1 n hn] at h2
    exact h.ne m n hm hn hne h1 h2
  · rw [e1 m hm]
    by_cases hmj : m = j
    · subst hmj; exact ha
    · rw [e2 m hmj] at h1
      exact h.imp m hm h1

/-- what a region that makes k variables holds: old memory, n boxes, the variables -/
structure GS (w0 : World) (s n B : Nat) (tb : TypeId) (cs : Nat → Array Value) (k a0 t0 : Nat) (t : TypeId) (z : Array Value) (val : Nat → Array Value) (g : Nat → Nat) (d : Nat → Bool) (w : World) : Prop where
  old : Below w0.heap.size w0 w
  big : B ≤ w.heap.size
  low : w0.heap.size ≤ B
  sB : s + n ≤ B
  box : ∀ j, j < n → Blk w (s + j) tb (cs j)
  new : NewV k a0 t0 B t z val g d w
  hat : a0 + k ≤ t0
  siz : ∀ j, j < k → (val j).size = z.size
variable {w0 : World} {s n : Nat} {tb : TypeId} {cs : Nat → Array Value}
theorem GS.start (old : Below w0.heap.size w0 w) (big : B ≤ w.heap.size) (low : w0.heap.size ≤ B) (sB : s + n ≤ B) (box : ∀ j, j < n → Blk w (s + j) tb (cs j)) (hat : a0 + k ≤ t0) (siz : ∀ j, j < k → (val j).size = z.size)
    (hd : ∀ j, j < t0 + k → d j = false) : GS w0 s n B tb cs k a0 t0 t z val g d w := ⟨old, big, low, sB, box, NewV.start hd hat, hat, siz⟩
theorem GS.call (h : GS w0 s n B tb cs k a0 t0 t z val g d w) {i : Nat} (hi : i < a0) {w' : World} (hb : Below w.heap.size w w') : GS w0 s n B tb cs k a0 t0 t z val g (up d i true) w' :=
  ⟨h.old.trans (hb.mono h.old.size), Nat.le_trans h.big hb.size, h.low, h.sB, fun j hj => (h.box j hj).keep hb, h.new.keep h.hat hi hb, h.hat, h.siz⟩
theorem GS.load (h : GS w0 s n B tb cs k a0 t0 t z val g d w) {i : Nat} (hi : i < a0) : GS w0 s n B tb cs k a0 t0 t z val g (up d i true) w := h.call hi (Below.refl _ w)
theorem GS.make (h : GS w0 s n B tb cs k a0 t0 t z val g d w) {i j : Nat} (hj : j < k) (hi : i = a0 + j) (hd : d i = false) :
    GS w0 s n B tb cs k a0 t0 t z val (up g i w.heap.size) (up d i true) (w.alloc (.cells z t)) :=
  ⟨h.old.alloc h.old.size _, by have := h.big; simp; omega, h.low, h.sB, fun j hj => (h.box j hj).alloc _, h.new.make h.hat hj hi hd h.big, h.hat, h.siz⟩
theorem GS.fill (h : GS w0 s n B tb cs k a0 t0 t z val g d w) {i j : Nat} (hj : j < k) (hi : i = t0 + j) (hd : d i = false) (ha : d (a0 + j) = true) :
    GS w0 s n B tb cs k a0 t0 t z val g (up d i true) (w.setCells (g (a0 + j)) 0 (val j).toList) := by
  have hB := (h.new.own j hj ha).1
  exact ⟨below_setCells (Nat.le_trans h.low hB) _ _ h.old, by rw [setCells_size]; exact h.big, h.low, h.sB, fun m hm => Blk.fars (by have := h.sB; omega) _ _ _ (h.box m hm), h.new.fill h.hat hj hi hd ha (h.siz j hj), h.hat, h.siz⟩

/-- what a region that makes nothing holds: old memory, and blocks -/
def HA (w0 : World) (L : List (Nat × TypeId × Array Value)) (w : World) : Prop := Below w0.heap.size w0 w ∧ ∀ x ∈ L, Blk w x.1 x.2.1 x.2.2
theorem HA.keep {L : List (Nat × TypeId × Array Value)} (w w' : World) (h : HA w0 L w) (hb : Below w.heap.size w w') : HA w0 L w' := ⟨h.1.trans (hb.mono h.1.size), fun x hx => (h.2 x hx).keep hb⟩
theorem HA.get {L : List (Nat × TypeId × Array Value)} (h : HA w0 L w) (i : Nat) {x : Nat × TypeId × Array Value} (hi : L[i]? = some x) : Blk w x.1 x.2.1 x.2.2 := h.2 x (List.mem_of_getElem? hi)
theorem HA.drew {L : List (Nat × TypeId × Array Value)} (h : HA w0 L w) : HA w0 L w.drew := ⟨h.1.drew, fun x hx => (h.2 x hx).drew⟩
theorem HA.start (h : Below w0.heap.size w0 w) : HA w0 [] w := ⟨h, fun _ h => by cases h⟩
theorem HA.more {L : List (Nat × TypeId × Array Value)} (h : HA w0 L w) {q : Nat} {t : TypeId} {c : Array Value} (hb : Blk w q t c) : HA w0 ((q, t, c) :: L) w := ⟨h.1, fun x hx => by
  rcases List.mem_cons.1 hx with rfl | hx
  · exact hb
  · exact h.2 x hx⟩
theorem HA.less {L L' : List (Nat × TypeId × Array Value)} (h : HA w0 L w) (hs : ∀ x ∈ L', x ∈ L) : HA w0 L' w := ⟨h.1, fun x hx => h.2 x (hs x hx)⟩
theorem HA.make {L : List (Nat × TypeId × Array Value)} (h : HA w0 L w) (t : TypeId) (c : Array Value) : HA w0 ((w.heap.size, t, c) :: L) (w.alloc (.cells c t)) :=
  HA.more ⟨h.1.alloc h.1.size _, fun x hx => (h.2 x hx).alloc _⟩ (Blk.new w t c)
end Go.Proofs.YtbmfmamhidccbaaDoor
