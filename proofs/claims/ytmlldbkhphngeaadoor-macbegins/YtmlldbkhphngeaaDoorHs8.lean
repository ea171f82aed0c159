/-
  what works tells.
-/
import Derived.Test.YtmlldbkhphngeaaDoorHs7
namespace Go.Proofs.YtmlldbkhphngeaaDoor
open Go.RowKit


def psc (ps : List ByteArray) : Array Value := (ps.map Value.string).toArray
def dA : ByteArray := { data := #[186, 120, 22, 191, 143, 1, 207, 234, 65, 65, 64, 222, 93, 174, 34, 35, 176, 3, 97, 163, 150, 23, 122, 156, 180, 16, 255, 97, 242, 0, 21, 173] }
def dB : ByteArray := { data := #[221, 175, 53, 161, 147, 97, 122, 186, 204, 65, 115, 73, 174, 32, 65, 49, 18, 230, 250, 78, 137, 169, 126, 162, 10, 158, 238, 230, 75, 85, 211, 154, 33, 146, 153, 42, 39, 79, 193, 168, 54, 186, 60, 35, 163, 254, 235, 189, 69, 77, 68, 35, 100, 60, 232, 14, 42, 154, 201, 79, 165, 76, 164, 159] }
def hA : ByteArray := { data := #[98, 97, 55, 56, 49, 54, 98, 102, 56, 102, 48, 49, 99, 102, 101, 97, 52, 49, 52, 49, 52, 48, 100, 101, 53, 100, 97, 101, 50, 50, 50, 51, 98, 48, 48, 51, 54, 49, 97, 51, 57, 54, 49, 55, 55, 97, 57, 99, 98, 52, 49, 48, 102, 102, 54, 49, 102, 50, 48, 48, 49, 53, 97, 100] }
def hB : ByteArray := { data := #[100, 100, 97, 102, 51, 53, 97, 49, 57, 51, 54, 49, 55, 97, 98, 97, 99, 99, 52, 49, 55, 51, 52, 57, 97, 101, 50, 48, 52, 49, 51, 49, 49, 50, 101, 54, 102, 97, 52, 101, 56, 57, 97, 57, 55, 101, 97, 50, 48, 97, 57, 101, 101, 101, 101, 54, 52, 98, 53, 53, 100, 51, 57, 97, 50, 49, 57, 50, 57, 57, 50, 97, 50, 55, 52, 102, 99, 49, 97, 56, 51, 54, 98, 97, 51, 99, 50, 51, 97, 51, 102, 101, 101, 98, 98, 100, 52, 53, 52, 100, 52, 52, 50, 51, 54, 52, 51, 99, 101, 56, 48, 101, 50, 97, 57, 97, 99, 57, 52, 102, 97, 53, 52, 99, 97, 52, 57, 102] }
theorem ret_eq {f : FuncId} {args : Array Value} {w : World} {v v' : Value} (h : Calls Tryd.prog f args w fun e w' => e = .returned v ∧ Below w.heap.size w w') (e : v = v') : Calls Tryd.prog f args w fun e w' => e = .returned v' ∧ Below w.heap.size w w' := e ▸ h
theorem bytes_eq {l : List UInt8} {s : ByteArray} (h : l = bl s) : Value.string ⟨l.toArray⟩ = .string s := by rw [h]; rfl
theorem parts_ofc {w : World} {q : Nat} {ps : List ByteArray} (h : Blk w q 9 (psc ps)) : ∀ i, i < ps.length → ∃ q', (some ⟨q, 0, none⟩ : Option Addr) = some ⟨q', 0, none⟩ ∧ w.cell? ⟨q', i, none⟩ = some (.string (ps.getD i ByteArray.empty)) := parts_of h

end Go.Proofs.YtmlldbkhphngeaaDoor
