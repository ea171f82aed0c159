/-
  What is known, by what the terms are.
-/
import Derived.Test.YtcjjbpbehapjpaaGreatT17
namespace Go.Proofs.YtcjjbpbehapjpaaGreat
open Go.RowKit

inductive Itm where
  | n
  | d (w : List Nat)
  | m (k n : Nat) (ps : List Nat)
def itm (l : Nat) : Ent → Itm
  | .nm _ => .n
  | .dt s => .d (wth l s)
  | .mk k n _ ps _ => .m k n ps
def halfI (pub : Nat → Option Nat) (st : St) (x a o : Nat) : St := match pub o with | some p => ruleS st x [a, p] | none => st
def layI (pub : Nat → Option Nat) (st : St) (x : Nat) : Itm → St
  | .n => st
  | .d wi => wi.foldl (fun st y => ruleS st y [x]) (ruleS st x wi)
  | .m k n ps =>
    if k = 4 then (if n = 0 then halfI pub (halfI pub (ruleS st x ps) x (ps.getD 0 0) (ps.getD 1 0)) x (ps.getD 1 0) (ps.getD 0 0) else ruleS st x ps)
    else if k = 6 then ruleS (ruleS st x ps) (ps.getD 3 0) [x, ps.getD 0 0]
    else if k = 7 then ruleS (ruleS st x ps) (ps.getD 1 0) [x] else ruleS st x ps
theorem layS_I (es : List Ent) (st : St) (x : Nat) (e : Ent) : layS es st x e = layI (pubT es) st x (itm es.length e) := by
  cases e <;> rfl
def layA (pub : Nat → Option Nat) : List Itm → Nat → St → St
  | [], _, st => st
  | i :: l, x, st => layA pub l (x + 1) (layI pub st x i)
theorem layA_snoc (pub : Nat → Option Nat) (e : Itm) : ∀ (l : List Itm) (x : Nat) (st : St), layA pub (l ++ [e]) x st = layI pub (layA pub l x st) (x + l.length) e
  | [], x, st => rfl
  | i :: l, x, st => by
    rw [List.cons_append, layA, layA, layA_snoc pub e l, List.length_cons, show x + 1 + l.length = x + (l.length + 1) by omega]
theorem layK_A (es : List Ent) : ∀ i, i ≤ es.length → layK es i = layA (pubT es) ((es.take i).map (itm es.length)) 0 (st00 es.length)
  | 0, _ => rfl
  | i + 1, hi => by
    have he : es[i]? = some (es[i]'(by omega)) := List.getElem?_eq_getElem (by omega)
    rw [layK, he]
    simp only
    rw [layS_I, layK_A es i (by omega), List.take_succ_eq_append_getElem (by omega), List.map_append, List.map_cons, List.map_nil, layA_snoc, List.length_map, List.length_take, Nat.min_eq_left (by omega), Nat.zero_add]
def knownI (pub : Nat → Option Nat) (m : Nat) (l : List Itm) (seen : List (List Nat)) : List Bool := (spreadS (seen.foldl (fun st l => l.foldl learnS st) (layA pub l 0 (st00 m)))).known
theorem knownF_I (es : List Ent) (ss : List ByteArray) : knownF es ss = knownI (pubT es) es.length (es.map (itm es.length)) (ss.map (wth es.length)) := by
  unfold knownF knownI seenK
  rw [layK_A es es.length (Nat.le_refl _), List.take_length, List.take_length, List.foldl_map]
theorem knownL {es : List Ent} {ss : List ByteArray} {m : Nat} (hm : es.length = m) {l : List Itm} {q : List (List Nat)} {r : List Bool} (h1 : es.map (itm m) = l) (h2 : ss.map (wth m) = q) (h3 : knownI (pubT es) m l q = r) : knownF es ss = r := by
  subst hm h1 h2 h3
  exact knownF_I es ss
end Go.Proofs.YtcjjbpbehapjpaaGreat

namespace Go.Proofs.YtcjjbpbehapjpaaGreat
open Go.RowKit

end Go.Proofs.YtcjjbpbehapjpaaGreat
