/-
  What is known, by what the terms are.
-/
import Derived.Test.YtihfeoanognonaaT17
namespace Go.Proofs.Ytihfeoanognonaa
open Go.RowKit

inductive Itm where
  | n
  | d (w : List Nat)
  | m (k n : Nat) (ps : List Nat)
def itm (l : Nat) : Ent → Itm
  | .nm _ => .n
  | .dt s => .d (wth l s)
  | .mk k n _ ps _ => .m k n ps
def halfI (pub : Nat → Option Nat) (st : St) (x a o : Nat) : St := match pub o with | some p => ruleS st x [a, p] | none => st
def layI (pub : Nat → Option Nat) (st : St) (x : Nat) : Itm → St
  | .n => st
  | .d wi => wi.foldl (fun st y => ruleS st y [x]) (ruleS st x wi)
  | .m k n ps =>
    if k = 4 then (if n = 0 then halfI pub (halfI pub (ruleS st x ps) x (ps.getD 0 0) (ps.getD 1 0)) x (ps.getD 1 0) (ps.getD 0 0) else ruleS st x ps)
    else if k = 6 then ruleS (ruleS st x ps) (ps.getD 3 0) [x, ps.getD 0 0]
    else if k = 7 then ruleS (ruleS st x ps) (ps.getD 1 0) [x] else ruleS st x ps
theorem layS_I (es : List Ent) (st : St) (x : Nat) (e : Ent) : layS es st x e = layI (pubT es) st x (itm es.length e) := by
  cases e <;> rfl
def layA (pub : Nat → Option Nat) : List Itm → Nat → St → St
  | [], _, st => st
  | i :: l, x, st => layA pub l (x + 1) (layI pub st x i)
theorem layA_snoc (pub : Nat → Option Nat) (e : Itm) : ∀ (l : List Itm) (x : Nat) (st : St), layA pub (l ++ [e]) x st = layI pub (layA pub l x st) (x + l.length) e
  | [], x, st => rfl
  | i :: l, x, st => by
    rw [List.cons_append, layA, layA, layA_snoc pub e l, List.length_cons, show x + 1 + l.length = x + (l.length + 1) by omega]
theorem layK_A (es : List Ent) : ∀ i, i ≤ es.length → layK es i = layA (pubT es) ((es.take i).map (itm es.length)) 0 (st00 es.length)
  | 0, _ => rfl
  | i + 1, hi => by
    have he : es[i]? = some (es[i]'(by omega)) := List.getElem?_eq_getElem (by omega)
    rw [layK, he]
    simp only
    rw [layS_I, layK_A es i (by omega), List.take_succ_eq_append_getElem (by omega), List.map_append, List.map_cons, List.map_nil, layA_snoc, List.length_map, List.length_take, Nat.min_eq_left (by omega), Nat.zero_add]
def knownI (pub : Nat → Option Nat) (m : Nat) (l : List Itm) (seen : List (List Nat)) : List Bool := (spreadS (seen.foldl (fun st l => l.foldl learnS st) (layA pub l 0 (st00 m)))).known
theorem knownF_I (es : List Ent) (ss : List ByteArray) : knownF es ss = knownI (pubT es) es.length (es.map (itm es.length)) (ss.map (wth es.length)) := by
  unfold knownF knownI seenK
  rw [layK_A es es.length (Nat.le_refl _), List.take_length, List.take_length, List.foldl_map]
theorem knownL {es : List Ent} {ss : List ByteArray} {m : Nat} (hm : es.length = m) {l : List Itm} {q : List (List Nat)} {r : List Bool} (h1 : es.map (itm m) = l) (h2 : ss.map (wth m) = q) (h3 : knownI (pubT es) m l q = r) : knownF es ss = r := by
  subst hm h1 h2 h3
  exact knownF_I es ss
theorem TH.add {w0 w w' : World} {M : ML} {t : Tb} {es : List Ent} {L : BL} {q : Nat} {ty : TypeId} {c : Array Value} (H : TH w0 M t es L w) (hb : Below w.heap.size w w') (h1 : w.heap.size ≤ q) (h2 : Blk w' q ty c) : TH w0 M t es ((q, ty, c) :: L) w' := by
  obtain ⟨v, Lr, hR, H⟩ := H
  exact TH.dn hR (HA.addNew H hb h1 h2)
def nonce : ByteArray := { data := #[110, 111, 110, 99, 101] }
def adS : ByteArray := { data := #[97, 100] }
def aheadS : ByteArray := { data := #[97, 104, 101, 97, 100, 32] }
theorem partF_new {es : List Ent} {s : ByteArray} (h1 : numT es.length s = none) (h2 : lkT (dts es 0) s = none) : partF es s = (es ++ [.dt s], es.length) := by
  simp [partF, h1, h2]
theorem numT_big {m : Nat} {s : ByteArray} (h : s.size ≠ 8) : numT m s = none := if_neg h
theorem pf4 {es E9 E10 : List Ent} {a b c d : ByteArray} {N : List Nat} {x : Nat} (h1 : pfE es [a, b, c, d] 3 = E9) (h2 : pfN es [a, b, c, d] 3 = N) (h3 : partF E9 d = (E10, x)) : pfE es [a, b, c, d] [a, b, c, d].length = E10 ∧ pfN es [a, b, c, d] [a, b, c, d].length = N ++ [x] := by
  have e1 : pfE es [a, b, c, d] [a, b, c, d].length = (partF (pfE es [a, b, c, d] 3) d).1 := rfl
  have e2 : pfN es [a, b, c, d] [a, b, c, d].length = pfN es [a, b, c, d] 3 ++ [(partF (pfE es [a, b, c, d] 3) d).2] := rfl
  rw [e1, e2, h1, h2, h3]
  exact ⟨rfl, rfl⟩
theorem cat_ne {s1 : ByteArray} (h : s1 ≠ { data := #[] }) (n : Nat) : 9 ≤ (s1 ++ txt n).size := by
  rw [ByteArray.size_append, txt_size]
  have : s1.size ≠ 0 := fun e => h (by
    apply ByteArray.ext
    exact Array.eq_empty_of_size_eq_zero e)
  omega
theorem lkT_two {S : ByteArray} (h : 9 ≤ S.size) : lkT [(nonce, 7), (adS, 8)] S = none := by
  have h1 : ¬ nonce = S := fun e => by rw [← e] at h; exact absurd h (by decide)
  have h2 : ¬ adS = S := fun e => by rw [← e] at h; exact absurd h (by decide)
  simp [lkT, h1, h2]
theorem occ_last (s1 : ByteArray) (m n : Nat) (hx : firstT m (txt n) = some n) : n ∈ wth m (s1 ++ txt n) := by
  rw [mem_wth]
  refine ⟨s1.size, ?_⟩
  have e : (s1 ++ txt n).extract s1.size (s1 ++ txt n).size = txt n := by
    apply bl_inj
    rw [bl_extract]
    have : bl (s1 ++ txt n) = bl s1 ++ bl (txt n) := by simp [bl]
    rw [this, List.drop_append_of_le_length (by rw [bl_len]; exact Nat.le_refl _), List.drop_of_length_le (by rw [bl_len]; exact Nat.le_refl _), List.nil_append, List.take_of_length_le]
    rw [bl_len, ByteArray.size_append]
    omega
  rw [e]
  exact hx
def sS (s1 : ByteArray) : ByteArray := s1 ++ txt 2
def pqS : ByteArray := txt 3 ++ txt 4
def ahS (n : Nat) : ByteArray := aheadS ++ txt n
theorem sS_size (s1 : ByteArray) : (sS s1).size = s1.size + 8 := by unfold sS; rw [ByteArray.size_append, txt_size]
theorem pqS_size : pqS.size = 16 := by unfold pqS; rw [ByteArray.size_append, txt_size, txt_size]
theorem ahS_size (n : Nat) : (ahS n).size = 14 := by unfold ahS; rw [ByteArray.size_append, txt_size]; rfl
theorem sS_big {s1 : ByteArray} (h : s1 ≠ { data := #[] }) : 9 ≤ (sS s1).size := cat_ne h 2
theorem sS_two (s1 : ByteArray) {m : Nat} (hx : firstT m (txt 2) = some 2) : 2 ∈ wth m (sS s1) := occ_last s1 m 2 hx
theorem one_is {l : List Nat} {x : Nat} (h : l.length = 1) (hx : x ∈ l) : l = [x] := by
  match l, h with
  | [y], _ => rw [List.mem_singleton] at hx; rw [hx]
end Go.Proofs.Ytihfeoanognonaa
