/-
  Turns as they came in; regions in which two operations may come first.
-/
import Derived.Test.YtckmlaempffpjaaGreatGM
import Derived.Test.YtckmlaempffpjaaGreatS25
namespace Go.Proofs.YtckmlaempffpjaaGreat
open Go.RowKit

def tn0 : Tn := ⟨[0, 0, 0], [0, 0, 0], 0, 0, 0, 0, false⟩
/-- turns as they came in -/
def TnA (w : World) (o : Option Addr) (xs : List Tn) : Prop := ∀ i, i < xs.length → ∃ a, o = some a ∧ TnOk (xs.getD i tn0) ∧ ∀ j v, (tnc (xs.getD i tn0))[j]? = some v → w.cell? ((a.add (i * 11)).add j) = some v
section
variable {ρ : Operand → Value} {x y : Operand} {w : World} {dst : Option Tmp} {T e ty : TypeId} {pos : String} {aft : Array Edge} {gd : Option (Nat × Bool)}
theorem run_addrT {o : Option Addr} {a : Addr} {n m i sz : Nat} (ho : o = some a) (hT : Tryz.prog.underlying T = some (.slice e)) (hs : ∀ w, (sizeOf e).run Tryz.prog w = .ok sz w) (hx : ρ x = .slice o n m) (hy : ρ y = iN .i64 i) (hi : i < n) : (execOp ρ ⟨dst, .indexAddr T x y, ty, pos, aft, gd⟩).run Tryz.prog w = .ok (.value (.pointer (some (a.add (i * sz))))) w := by
  subst ho
  simp only [execOp, hx, hy, iN]
  simp [go_sem, hT, hs, hi]
theorem run_loadT {a : Addr} {c : Array Value} {D : TypeDesc} (hx : ρ x = .pointer (some a)) (hc : ∀ j v, c[j]? = some v → w.cell? (a.add j) = some v) (hu : Tryz.prog.underlying T = some D) (hd : D.isRow = true) (hi : (Tryz.prog.info? T).map (·.size) = some c.size) :
    (execOp ρ ⟨dst, .load T x, ty, pos, aft, gd⟩).run Tryz.prog w = .ok (.value (.agg c)) w := by
  have hl : (loadCells a c.toList.length).run Tryz.prog w = .ok c.toList.toArray w := run_loadCells_list (P := Tryz.prog) w a c.toList (fun j v hv => hc j v (by rw [← Array.getElem?_toList]; exact hv))
  cases hq : Tryz.prog.info? T with
  | none => simp [hq] at hi
  | some i =>
    have hs : i.size = c.toList.length := by simpa [hq] using hi
    have hagg : (isAgg T).run Tryz.prog w = .ok true w := by
      unfold isAgg
      rw [Sem.run_bind, run_underlying hu w]
      cases D <;> simp_all
    have hload : (loadVar T a).run Tryz.prog w = .ok (.agg c) w := by
      rw [Array.length_toList] at hl hs
      simp [loadVar, Sem.run_bind, hagg, sizeOf, typeInfo, hq, hs, hl]
    simp only [execOp, hx, Instr.loadAt, Instr.sureAddr, Sem.run_bind, Sem.run_pure, Result.andThen_ok, hload]
end
end Go.Proofs.YtckmlaempffpjaaGreat
