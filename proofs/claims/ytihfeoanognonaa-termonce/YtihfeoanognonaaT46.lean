/-
 TermMore: who has more texts knows no less; known texts add nothing.
-/
import Derived.Test.YtihfeoanognonaaT45
import Derived.Test.YtihfeoanognonaaB3
import Derived.Test.YtihfeoanognonaaT10
namespace Go.Proofs.Ytihfeoanognonaa
open Go.RowKit
theorem Newer.one {B : Nat} {w : World} {q : Nat} {t : TypeId} {c : Array Value} (h1 : B ≤ q) (h2 : Blk w q t c) : Newer B w [(q, t, c)] := ⟨fun y hy => by rw [List.mem_singleton.1 hy]; exact ⟨h1, h2⟩, by simp⟩
theorem HA.add1 {z : Base} {L : BL} {w w' : World} {q : Nat} {t : TypeId} {c : Array Value} (H : HA z L w) (hb : Below w.heap.size w w') (h1 : w.heap.size ≤ q) (h2 : Blk w' q t c) : HA z ((q, t, c) :: L) w' := HA.perm (HA.addL H hb (Newer.one h1 h2)) (List.perm_append_singleton _ _)
theorem ActA.take {w : World} {o : Option Addr} {al : List Ac} (h : ActA w o al) (n : Nat) : ActA w o (al.take n) := fun i hi => by
 rw [List.length_take] at hi
 have e : (al.take n).getD i ac0 = al.getD i ac0 := by rw [List.getD_eq_getElem?_getD, List.getElem?_take, if_pos (by omega), ← List.getD_eq_getElem?_getD]
 rw [e]
 exact h i (by omega)
theorem run_cutA {ρ : Operand → Value} {x y : Operand} {w : World} {dst : Option Tmp} {ty : TypeId} {pos : String} {aft : Array Edge} {gd : Option (Nat × Bool)} {o : Option Addr} {n c k k' : Nat} (hx : ρ x = .slice o n c) (hy : ρ y = iN .i64 k) (hk : k ≤ c) (ho : o = none → c = 0 ∧ n = 0) (hkk : k = k') :
  (execOp ρ ⟨dst, .slice 22 x none (some y) none, ty, pos, aft, gd⟩).run Try.prog w = .ok (.value (.slice o k' c)) w := by
 subst hkk
 cases o with
 | none =>
  obtain ⟨rfl, rfl⟩ := ho rfl
  obtain rfl : k = 0 := by omega
  simp only [execOp, hx]
  simp [go_sem, Try.underlying22, hy, iN]
 | some a =>
  simp only [execOp, hx]
  simp [go_sem, Try.underlying22, Try.sizeOf56, hy, iN, hk]
end Go.Proofs.Ytihfeoanognonaa
