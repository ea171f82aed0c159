/-
  What join leans on: rows of numbers, parts one by one.
-/
import Derived.Test.YtiogegoepgkjlaaT6
namespace Go.Proofs.Ytiogegoepgkjlaa
open Go.RowKit

def strc (ss : List ByteArray) : Array Value := (ss.map Value.string).toArray
theorem strc_get (ss : List ByteArray) (i : Nat) (h : i < ss.length) : (strc ss)[i]? = some (.string (ss.getD i ByteArray.empty)) := by simp [strc, h]
/-- the first cells are these texts -/
def PreS (cs : Array Value) (ss : List ByteArray) : Prop := ∀ i, i < ss.length → cs[i]? = some (.string (ss.getD i ByteArray.empty))
theorem PreS.strc (ss : List ByteArray) : PreS (strc ss) ss := fun i h => strc_get ss i h
/-! parts, one by one -/
/-! where blocks lie -/
end Go.Proofs.Ytiogegoepgkjlaa

namespace Go.Proofs.Ytiogegoepgkjlaa
open Go.RowKit

end Go.Proofs.Ytiogegoepgkjlaa

namespace Go.Proofs.Ytiogegoepgkjlaa
open Go.RowKit

end Go.Proofs.Ytiogegoepgkjlaa

namespace Go.Proofs.Ytiogegoepgkjlaa
open Go.RowKit

section
variable {P : Program} {ρ : Operand → Value} {x y : Operand} {w : World} {dst : Option Tmp} {T T2 ty : TypeId} {pos : String} {aft : Array Edge} {gd : Option (Nat × Bool)}
theorem run_nes {s t : ByteArray} (hx : ρ x = .string s) (hy : ρ y = .string t) (r : Bool) (hr : decide (s = t) = !r) : (execOp ρ ⟨dst, .binOp .neq T x y T2, ty, pos, aft, gd⟩).run P w = .ok (.value (.bool r)) w := by
  have hr' : (!decide (s = t)) = r := by rw [hr]; simp
  subst hr'
  simp only [execOp, hx, hy]
  by_cases h : s = t
  · subst h; simp [binOp, go_sem, Op.stringOp]
  · have h2 : ¬s.toList = t.toList := fun e => by
      rw [ByteArray.toList_eq, ByteArray.toList_eq] at e
      refine h ?_
      obtain ⟨⟨l⟩⟩ := s
      obtain ⟨⟨m⟩⟩ := t
      exact congrArg (fun l : List UInt8 => (⟨⟨l⟩⟩ : ByteArray)) e
    simp [binOp, go_sem, Op.stringOp, h, h2]
end
theorem strs_le {ss : List ByteArray} {m : Nat} (h : ∀ s ∈ ss, s.size ≤ m) (i : Nat) : (ss.getD i ByteArray.empty).size ≤ m := by
  rw [List.getD_eq_getElem?_getD]
  cases hi : ss[i]? with
  | none => simp
  | some x => simpa using h x (List.mem_of_getElem? hi)
end Go.Proofs.Ytiogegoepgkjlaa

namespace Go.Proofs.Ytiogegoepgkjlaa
open Go.RowKit

end Go.Proofs.Ytiogegoepgkjlaa

namespace Go.Proofs.Ytiogegoepgkjlaa
open Go.RowKit

end Go.Proofs.Ytiogegoepgkjlaa

namespace Go.Proofs.Ytiogegoepgkjlaa
open Go.RowKit

end Go.Proofs.Ytiogegoepgkjlaa

namespace Go.Proofs.Ytiogegoepgkjlaa
open Go.RowKit

end Go.Proofs.Ytiogegoepgkjlaa

namespace Go.Proofs.Ytiogegoepgkjlaa
open Go.RowKit

end Go.Proofs.Ytiogegoepgkjlaa

namespace Go.Proofs.Ytiogegoepgkjlaa
open Go.RowKit

end Go.Proofs.Ytiogegoepgkjlaa

namespace Go.Proofs.Ytiogegoepgkjlaa
open Go.RowKit

end Go.Proofs.Ytiogegoepgkjlaa
