/-
  More operations.
-/
import Derived.Test.YthljhhhjdajfhaaHW
import Derived.Laws.MakeOwn
import Derived.Lib.ConvBytes
namespace Go.Proofs.Ythljhhhjdajfhaa
open Go.RowKit

def bl (s : ByteArray) : List UInt8 := s.data.toList
theorem bl_len (s : ByteArray) : (bl s).length = s.size := by unfold bl; rw [Array.length_toList]; rfl
/-- a byte as a value -/
def by8 (u : UInt8) : Value := iN .u8 u.toNat
/-- bytes as cells -/
def bc (l : List UInt8) : Array Value := (l.map by8).toArray
theorem bc_size (l : List UInt8) : (bc l).size = l.length := by simp [bc]
theorem bc_get (l : List UInt8) (i : Nat) (h : i < l.length) : (bc l)[i]? = some (by8 (l.getD i 0)) := by
  simp [bc, List.getElem?_eq_getElem h]
theorem one_bc (l : List UInt8) : (bc l).all (·.oneCell') = true := all_oneCell_toArray fun v hv => by
  obtain ⟨x, _, rfl⟩ := List.mem_map.1 hv
  rfl
section
variable {ρ : Operand → Value} {x y : Operand} {w : World} {dst : Option Tmp} {T T2 ty : TypeId} {pos : String} {aft : Array Edge} {gd : Option (Nat × Bool)} {k : IntKind} {n : Nat} {a b : BitVec n} 
theorem run_cut {P : Program} {a : BitVec 64} (hx : ρ x = bv .u64 a) (hT : P.underlying T = some (.int .u64)) (hT2 : P.underlying T2 = some (.int .u32)) : (execOp ρ ⟨dst, .convert T T2 x, ty, pos, aft, gd⟩).run P w = .ok (.value (bv .u32 (a.setWidth 32))) w := by
  have h := u32n a.toNat
  simp only [execOp, hx, bv, iN, BitVec.toNat_setWidth]
  simpa [go_sem, hT, hT2] using h
theorem run_wide {P : Program} {u : UInt8} (hk : WK k n) (hx : ρ x = by8 u) (hT : P.underlying T = some (.int .u8)) (hT2 : P.underlying T2 = some (.int k)) : (execOp ρ ⟨dst, .convert T T2 x, ty, pos, aft, gd⟩).run P w = .ok (.value (bv k (BitVec.ofNat n u.toNat))) w := by
  cases hk
  · have h := u32n u.toNat
    simp only [execOp, hx, bv, by8, iN, BitVec.toNat_ofNat]
    simpa [go_sem, hT, hT2] using h
  · have h := u64n u.toNat
    simp only [execOp, hx, bv, by8, iN, BitVec.toNat_ofNat]
    simpa [go_sem, hT, hT2] using h
theorem run_low {P : Program} (hx : ρ x = bv k a) (hT : P.underlying T = some (.int k)) (hT2 : P.underlying T2 = some (.int .u8)) : (execOp ρ ⟨dst, .convert T T2 x, ty, pos, aft, gd⟩).run P w = .ok (.value (by8 (UInt8.ofNat a.toNat))) w := by
  have h : IntKind.u8.wrap (a.toNat : Int) = ((a.toNat % 256 : Nat) : Int) := by simp [IntKind.wrap, IntKind.bits, IntKind.signed]
  simp only [execOp, hx, bv, by8, iN, UInt8.toNat_ofNat']
  simpa [go_sem, hT, hT2] using h
theorem run_len28 {q : Option Addr} {m c : Nat} (hx : ρ x = .slice q m c) : (execOp ρ ⟨dst, .call { callee := .builtin .len, args := #[x], argTypes := #[31] }, ty, pos, aft, gd⟩).run Try.prog w = .ok (.value (iN .i64 m)) w := by
  simp only [execOp, iN]
  go_simp
theorem run_len {s : ByteArray} (hx : ρ x = .string s) : (execOp ρ ⟨dst, .call { callee := .builtin .len, args := #[x], argTypes := #[9] }, ty, pos, aft, gd⟩).run Try.prog w = .ok (.value (iN .i64 s.size)) w := by
  simp only [execOp, iN]
  go_simp
theorem run_min {i j : Nat} (hx : ρ x = iN .i64 i) (hy : ρ y = iN .i64 j) : (execOp ρ ⟨dst, .call { callee := .builtin .min, args := #[x, y], argTypes := #[3, 3] }, ty, pos, aft, gd⟩).run Try.prog w = .ok (.value (iN .i64 (min i j))) w := by
  simp only [execOp, iN] at hx hy ⊢
  go_simp
  split <;> omega
theorem run_cut_hi {s : ByteArray} {b : Nat} (hx : ρ x = .string s) (hy : ρ y = iN .i64 b) (hb : b ≤ s.size) : (execOp ρ ⟨dst, .slice 9 x none (some y) none, ty, pos, aft, gd⟩).run Try.prog w = .ok (.value (.string (s.extract 0 b))) w := by
  simp only [execOp, hx, Option.map, hy, iN]
  go_simp
theorem run_cut_lo {z : Operand} {s : ByteArray} {a : Nat} (hx : ρ x = .string s) (hz : ρ z = iN .i64 a) (ha : a ≤ s.size) : (execOp ρ ⟨dst, .slice 9 x (some z) none none, ty, pos, aft, gd⟩).run Try.prog w = .ok (.value (.string (s.extract a s.size))) w := by
  simp only [execOp, hx, Option.map, hz, iN]
  go_simp
/-- a slice cut out of a slice -/
theorem run_cutb {z : Operand} {q m c a b : Nat} (hx : ρ x = .slice (some ⟨q, 0, none⟩) m c) (hz : ρ z = iN .i64 a) (hy : ρ y = iN .i64 b) (ha : a ≤ b) (hb : b ≤ c) (hac : a < c) : (execOp ρ ⟨dst, .slice 31 x (some z) (some y) none, ty, pos, aft, gd⟩).run Try.prog w = .ok (.value (.slice (some ⟨q, a, none⟩) (b - a) (c - a))) w := by
  simp only [execOp, hx, Option.map, hy, hz, iN]
  go_simp
  omega
theorem run_cut0 {q m c : Nat} (hx : ρ x = .slice (some ⟨q, 0, none⟩) m c) (hy : ρ y = iN .i64 0) : (execOp ρ ⟨dst, .slice 31 x none (some y) none, ty, pos, aft, gd⟩).run Try.prog w = .ok (.value (.slice (some ⟨q, 0, none⟩) 0 c)) w := by
  simp only [execOp, hx, Option.map, hy, iN]
  go_simp
theorem run_addr_part {q o m c i : Nat} (hx : ρ x = .slice (some ⟨q, o, none⟩) m c) (hy : ρ y = iN .i64 i) (hi : i < m) : (execOp ρ ⟨dst, .indexAddr 31 x y, ty, pos, aft, gd⟩).run Try.prog w = .ok (.value (.pointer (some ⟨q, o + i, none⟩))) w := by
  simp only [execOp, hx, hy, iN]
  go_simp
theorem info5 : (Try.prog.info? 5).map (fun i => (i.zero, i.size, i.bytes)) = some (some (.int .u8 0), 1, 1) := by kernel_rfl
theorem made_bc (c : Nat) : madeCells #[.int .u8 0] c = bc (List.replicate c 0) := by
  unfold madeCells bc
  apply Array.ext
  · simp
  · intro i h1 h2
    simp [Nat.mod_one, by8, iN]
theorem run_mk {m c : Nat} (hx : ρ x = iN .i64 m) (hy : ρ y = iN k c) (hmc : m ≤ c) (hc : c ≤ 2000000) : (execOp ρ ⟨dst, .makeSlice 31 x y, ty, pos, aft, gd⟩).run Try.prog w = .ok (.value (.slice (some ⟨w.heap.size, 0, none⟩) m c)) (w.alloc (.cells (bc (List.replicate c 0)) 5)) := by
  obtain ⟨i, hi, h⟩ := Option.map_eq_some_iff.1 info5
  simp only [Prod.mk.injEq] at h
  have e := run_makeSlice (P := Try.prog) w 31 5 i (.int .u8 0) Try.underlying31 hi h.1 .i64 k (m : Int) (c : Int) (by omega) (by omega) (by rw [h.2.1]; omega) (by rw [h.2.2]; omega) (by omega)
  rw [h.2.1] at e
  simp only [Int.toNat_natCast, Nat.mul_one] at e
  simp only [execOp, hx, hy, iN, Sem.run_bind, e, Result.andThen_ok, Sem.run_pure]
  congr 3
  exact made_bc c
end
end Go.Proofs.Ythljhhhjdajfhaa
