/-
 The keys of a change, one behind the other.
-/
import Derived.Test.YtckmlaempffpjaaGreatGS3
namespace Go.Proofs.YtckmlaempffpjaaGreat
open Go.RowKit Go.Shelf Go.Proofs.Tryz
attribute [local go_sem] Oper.semAt_some
def encK (x : ByteArray) : Array Value := #[.string x]
def KpC (q1 q2 : Nat) (A B : World) : Prop := A.heap.size ≤ B.heap.size ∧ ∀ k c t f, A.heap[k]? = some (.cells c t f) → k ≠ q1 → k ≠ q2 → B.heap[k]? = A.heap[k]?
def keysOf (ps : List Rw) (ds : List ByteArray) : List ByteArray := ps.map (·.k) ++ ds
theorem keys_take1 {ps : List Rw} {ds : List ByteArray} {k : Nat} {x : Rw} (h : ps[k]? = some x) : (keysOf ps ds).take (k + 1) = (keysOf ps ds).take k ++ [x.k] := by
 refine take_snoc ?_;have hl := (List.getElem?_eq_some_iff.1 h).1;rw [keysOf, List.getElem?_append_left (by simpa using hl), List.getElem?_map, h]
 rfl
theorem keys_take2 {ps : List Rw} {ds : List ByteArray} {k : Nat} {x : ByteArray} (h : ds[k]? = some x) : (keysOf ps ds).take (ps.length + k + 1) = (keysOf ps ds).take (ps.length + k) ++ [x] := by
 refine take_snoc ?_;rw [keysOf, List.getElem?_append_right (by simp), List.length_map, Nat.add_sub_cancel_left];exact h
theorem cells_kept {W W' : World} {q1 q2 b t : Nat} {c : Array Value} (hB : Blk W b t c) (hk : KpC q1 q2 W W') (h1 : b ≠ q1) (h2 : b ≠ q2) : Blk W' b t c := by
 obtain ⟨f, hf, hff⟩ := hB;exact ⟨f, (hk.2 b c t f hf h1 h2).trans hf, hff⟩
theorem cells_of {w : World} {p : Addr} {v : Value} (h : w.cell? p = some v) : ∃ c t f, w.heap[p.block]? = some (.cells c t f) := by
 unfold World.cell? at h
 cases ho : w.heap[p.block]? with
 | none => simp [ho] at h
 | some o =>
  cases o with
  | cells c t f => exact ⟨c, t, f, rfl⟩
  | _ => simp [ho] at h
theorem add_block (a : Addr) (i : Nat) : (a.add i).block = a.block := by
 unfold Addr.add
 split <;> rfl
theorem KpC.cell {q1 q2 : Nat} {A B : World} (h : KpC q1 q2 A B) {p : Addr} {v : Value} (hp : A.cell? p = some v) (h1 : p.block ≠ q1) (h2 : p.block ≠ q2) : B.cell? p = some v := by
 obtain ⟨c, t, f, hc⟩ := cells_of hp;exact (World.cell?_of_block (w := A) (h.2 _ c t f hc h1 h2)).trans hp
def apA (o : Option Addr) (q1 q2 : Nat) : Prop := ∀ a, o = some a → a.block ≠ q1 ∧ a.block ≠ q2
theorem RowsAt.kp {q1 q2 : Nat} {A B : World} {o : Option Addr} {ps : List Rw} (h : RowsAt A o ps) (hk : KpC q1 q2 A B) (ha : ps ≠ [] → apA o q1 q2) : RowsAt B o ps := fun i x hi => by
 obtain ⟨a, h1, h2, h3⟩ := h i x hi;obtain ⟨n1, n2⟩ := ha (by rintro rfl; simp at hi) a h1;exact ⟨a, h1, hk.cell h2 (by rw [add_block]; exact n1) (by rw [add_block]; exact n2), hk.cell h3 (by rw [add_block]; exact n1) (by rw [add_block]; exact n2)⟩
theorem KeysAt.kp {q1 q2 : Nat} {A B : World} {o : Option Addr} {ds : List ByteArray} (h : KeysAt A o ds) (hk : KpC q1 q2 A B) (ha : ds ≠ [] → apA o q1 q2) : KeysAt B o ds := fun i x hi => by
 obtain ⟨a, h1, h2⟩ := h i x hi;obtain ⟨n1, n2⟩ := ha (by rintro rfl; simp at hi) a h1;exact ⟨a, h1, hk.cell h2 (by rw [add_block]; exact n1) (by rw [add_block]; exact n2)⟩
theorem abides {α : Type} {B : Nat} {J : List α → World → Prop} (hJ : AbidesFrom B J) {pre : List α} {A W : World} (h : J pre A) (hb : Below A.heap.size A W) : J pre W :=
 hJ pre A W none h ⟨hb.os, hb.tape, hb.output, hb.size, fun k hk _ => hb.block k hk⟩ (fun r e => by cases e)
theorem RowsAt.ap {w : World} {o : Option Addr} {ps : List Rw} {q1 q2 : Nat} (h : RowsAt w o ps) (h1 : w.heap.size ≤ q1) (h2 : w.heap.size ≤ q2) : ps ≠ [] → apA o q1 q2 := fun hne a ha => by
 obtain ⟨x, l, rfl⟩ := List.exists_cons_of_ne_nil hne;obtain ⟨b, e, hc, _⟩ := h 0 x rfl;rw [ha] at e
 cases e
 obtain ⟨c, t, f, hc⟩ := cells_of hc;rw [add_block] at hc;have := lt_of_block hc
 omega
theorem KeysAt.ap {w : World} {o : Option Addr} {ds : List ByteArray} {q1 q2 : Nat} (h : KeysAt w o ds) (h1 : w.heap.size ≤ q1) (h2 : w.heap.size ≤ q2) : ds ≠ [] → apA o q1 q2 := fun hne a ha => by
 obtain ⟨x, l, rfl⟩ := List.exists_cons_of_ne_nil hne;obtain ⟨b, e, hc⟩ := h 0 x rfl;rw [ha] at e
 cases e
 obtain ⟨c, t, f, hc⟩ := cells_of hc;rw [add_block] at hc;have := lt_of_block hc
 omega
theorem KpC.trans {q1 q2 : Nat} {A B C : World} (h : KpC q1 q2 A B) (k : KpC q1 q2 B C) : KpC q1 q2 A C := ⟨Nat.le_trans h.1 k.1, fun i c t f hi n1 n2 => by
 have h1 := h.2 i c t f hi n1 n2;exact (k.2 i c t f (h1.trans hi) n1 n2).trans h1⟩
theorem KpC.obj {q1 q2 : Nat} (W : World) (l : Nat) (o o' : Obj) (hl : W.heap[l]? = some o) (hc : o.isCells = false) : KpC q1 q2 W (W.putObj l o') := ⟨by simp, fun k c t f hk _ _ => World.putObj_heap_other (fun e => by
 rw [e, hl] at hk
 cases hk
 cases hc)⟩
theorem KpC.set {q1 q2 : Nat} (W : World) (q i : Nat) (v : Value) (hq : q = q1 ∨ q = q2) : KpC q1 q2 W (W.setCell ⟨q, i, none⟩ v) := ⟨by simp, fun k _ _ _ _ n1 n2 => Below.heap_setCell W ⟨q, i, none⟩ v k (by rcases hq with rfl | rfl <;> assumption)⟩
theorem keeps_set {B : Nat} (W : World) (q i : Nat) (v : Value) {t : TypeId} {c : Array Value} (h : Blk W q t c) : KeepsFrom B W (W.setCell ⟨q, i, none⟩ v) := ⟨by simp, fun k o _ hk ho => (Below.heap_setCell W ⟨q, i, none⟩ v k (fun e => by
 obtain ⟨f, hf, _⟩ := h;rw [e, hf] at hk
 cases hk
 cases ho)).trans hk⟩
theorem own_ha {α : Type} {w0 : World} {B : Nat} (hB : w0.heap.size ≤ B) (L : List α → BL) (Pr : List α → Prop) : OwnFrom B (fun pre W => HA (bs w0) (L pre) W ∧ Pr pre) :=
 fun _ _ _ _ hs hg hr => ⟨hs.1.grownO hg (fun r e => ⟨Nat.le_trans hB (hr r e).1, (hr r e).2⟩), hs.2⟩
end Go.Proofs.YtckmlaempffpjaaGreat
