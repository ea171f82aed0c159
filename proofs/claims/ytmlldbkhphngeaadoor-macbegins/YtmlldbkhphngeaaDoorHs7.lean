/-
  digits; what works tells.
-/
import Derived.Test.YtmlldbkhphngeaaDoorHs6
import Derived.Test.YtmlldbkhphngeaaDoorOld
namespace Go.Proofs.YtmlldbkhphngeaaDoor
open Go.RowKit


def dgt (n : Nat) : UInt8 := (bl { data := #[48, 49, 50, 51, 52, 53, 54, 55, 56, 57, 97, 98, 99, 100, 101, 102] }).getD n 0
def hexQ (l : List UInt8) : Nat → List UInt8
  | 0 => []
  | i + 1 => hexQ l i ++ [dgt ((l.getD i 0).toNat / 2 ^ 4), dgt ((l.getD i 0).toNat &&& 15)]
theorem hexQ_len (l : List UInt8) : ∀ i, (hexQ l i).length = 2 * i
  | 0 => rfl
  | i + 1 => by rw [hexQ, List.length_append, hexQ_len l i]; rfl
theorem app_pad2 (l : List UInt8) (m c : Nat) (a b : UInt8) (hl : l.length = m) (hm : m + 2 ≤ c) : laidOn (l ++ List.replicate (c - m) 0) m [a, b] = (l ++ [a, b]) ++ List.replicate (c - (m + 2)) 0 := by
  subst hl
  unfold laidOn
  rw [List.take_left, List.length_cons, List.length_cons, List.length_nil, List.drop_append, List.drop_eq_nil_of_le (by omega), List.nil_append, show l.length + (0 + 1 + 1) - l.length = 2 by omega, List.drop_replicate]
  rfl
theorem hex_step (s : ByteArray) (k : Nat) (hk : k < s.size) : laidOn (hexQ (bl s) k ++ List.replicate (2 * s.size - 2 * k) 0) (2 * k) [dgt (((bl s).getD k 0).toNat / 2 ^ 4), dgt (((bl s).getD k 0).toNat &&& 15)] = hexQ (bl s) (k + 1) ++ List.replicate (2 * s.size - 2 * (k + 1)) 0 := by
  rw [app_pad2 _ _ _ _ _ (hexQ_len _ _) (by omega)]
  rfl
theorem hexp_len (s : ByteArray) (k : Nat) (hk : k ≤ s.size) : (hexQ (bl s) k ++ List.replicate (2 * s.size - 2 * k) 0).length = 2 * s.size := by rw [padb_len, hexQ_len]; omega
theorem hex_end (s : ByteArray) : (hexQ (bl s) s.size ++ List.replicate (2 * s.size - 2 * s.size) 0).take (2 * s.size) = hexQ (bl s) s.size := by
  rw [← hexQ_len (bl s) s.size, List.take_left]
theorem nib (u : UInt8) : u.toNat / 2 ^ 4 < 16 := by have := UInt8.toNat_lt u; omega
theorem nib2 (u : UInt8) : u.toNat &&& 15 < 16 := Nat.lt_of_le_of_lt Nat.and_le_right (by decide)
section
variable {ρ : Operand → Value} {x y : Operand} {w : World} {dst : Option Tmp} {ty : TypeId} {pos : String} {aft : Array Edge} {gd : Option (Nat × Bool)} {k : IntKind} {a : Nat} {s : ByteArray}
theorem run_idx (hx : ρ x = .string s) (hy : ρ y = iN k a) (ha : a < s.size) : (execOp ρ ⟨dst, .index 9 x y, ty, pos, aft, gd⟩).run Tryd.prog w = .ok (.value (by8 ((bl s).getD a 0))) w := by
  have e : s[a]? = some ((bl s).getD a 0) := by
    rw [List.getD_eq_getElem?_getD, List.getElem?_eq_getElem (by rw [bl_len]; exact ha)]
    exact getElem?_pos s a ha
  simp only [execOp, hx, hy, iN]
  simp [go_sem, Instr.index, run_underlying Tryd.underlying9, asIntOf, e]
  rfl
theorem run_buildb2 {u v : UInt8} (hx : ρ x = by8 u) (hy : ρ y = by8 v) : (execOp ρ ⟨dst, .buildSlice 31 2 #[(0, x), (1, y)], ty, pos, aft, gd⟩).run Tryd.prog w = .ok (.value (.slice (some ⟨w.heap.size, 0, none⟩) 2 2)) (w.alloc (.cells (bc [u, v]) 5)) := by
  simp only [by8, iN] at hx hy
  simp only [execOp]
  go_simp
  rfl
theorem run_bs1 {u : ByteArray} (hx : ρ x = .string u) : (execOp ρ ⟨dst, .buildSlice 38 1 #[(0, x)], ty, pos, aft, gd⟩).run Tryd.prog w = .ok (.value (.slice (some ⟨w.heap.size, 0, none⟩) 1 1)) (w.alloc (.cells #[.string u] 9)) := by
  simp only [execOp]
  go_simp
theorem run_bs2 {u v : ByteArray} (hx : ρ x = .string u) (hy : ρ y = .string v) : (execOp ρ ⟨dst, .buildSlice 38 2 #[(0, x), (1, y)], ty, pos, aft, gd⟩).run Tryd.prog w = .ok (.value (.slice (some ⟨w.heap.size, 0, none⟩) 2 2)) (w.alloc (.cells #[.string u, .string v] 9)) := by
  simp only [execOp]
  go_simp
end
/-- a block of texts, as parts -/
theorem parts_of {w : World} {q : Nat} {ps : List ByteArray} (h : Blk w q 9 (ps.map Value.string).toArray) : ∀ i, i < ps.length → ∃ q', (some ⟨q, 0, none⟩ : Option Addr) = some ⟨q', 0, none⟩ ∧ w.cell? ⟨q', i, none⟩ = some (.string (ps.getD i ByteArray.empty)) := fun i hi => ⟨q, rfl, by
  rw [h.cell i]
  simp [List.getElem?_eq_getElem hi]⟩

end Go.Proofs.YtmlldbkhphngeaaDoor
