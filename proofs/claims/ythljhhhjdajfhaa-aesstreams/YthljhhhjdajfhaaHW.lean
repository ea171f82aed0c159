/-
  Words of 32 and of 64 bits: operations, one by one; bytes in slices of one's own; appending where there is room.
-/
import Derived.Test.YthljhhhjdajfhaaHB
namespace Go.Proofs.Ythljhhhjdajfhaa
open Go.RowKit

/-- the two kinds of words -/
inductive WK : IntKind → Nat → Prop
  | s : WK .u32 32
  | l : WK .u64 64
/-- a word as a value -/
def bv {n : Nat} (k : IntKind) (x : BitVec n) : Value := iN k x.toNat
/-- words as cells -/
def wc {n : Nat} (k : IntKind) (l : List (BitVec n)) : Array Value := (l.map fun x => bv k x).toArray
theorem wc_size {n : Nat} (k : IntKind) (l : List (BitVec n)) : (wc k l).size = l.length := by simp [wc]
theorem wc_get {n : Nat} (k : IntKind) (l : List (BitVec n)) (i : Nat) (h : i < l.length) : (wc k l)[i]? = some (bv k (l.getD i 0)) := by
  simp [wc, List.getElem?_eq_getElem h]
theorem wc_put {n : Nat} (k : IntKind) (l : List (BitVec n)) (i : Nat) (x : BitVec n) : (wc k l).setIfInBounds i (.int k (x.toNat : Int)) = wc k (l.set i x) := by
  unfold wc
  rw [List.setIfInBounds_toArray, List.map_set]
  rfl
theorem one_wc {n : Nat} (k : IntKind) (l : List (BitVec n)) : (wc k l).all (·.oneCell') = true := all_oneCell_toArray fun v hv => by
  obtain ⟨x, _, rfl⟩ := List.mem_map.1 hv
  rfl
theorem u32n (a : Nat) : IntKind.u32.wrap (a : Int) = ((a % 4294967296 : Nat) : Int) := by rw [IntKind.wrap_u32']; omega
theorem u64n (a : Nat) : IntKind.u64.wrap (a : Int) = ((a % 18446744073709551616 : Nat) : Int) := by
  simp [IntKind.wrap, IntKind.bits, IntKind.signed]
section
variable {ρ : Operand → Value} {x y : Operand} {w : World} {dst : Option Tmp} {T T2 ty : TypeId} {pos : String} {aft : Array Edge} {gd : Option (Nat × Bool)} {k : IntKind} {n : Nat} {a b : BitVec n} {P : Program}
theorem run_addv (hk : WK k n) (hx : ρ x = bv k a) (hy : ρ y = bv k b) : (execOp ρ ⟨dst, .binOp .add T x y T2, ty, pos, aft, gd⟩).run P w = .ok (.value (bv k (a + b))) w := by
  cases hk
  · have h := u32n (a.toNat + b.toNat)
    simp only [execOp, hx, hy, bv, iN, BitVec.toNat_add]
    simpa [binOp, go_sem] using h
  · have h := u64n (a.toNat + b.toNat)
    simp only [execOp, hx, hy, bv, iN, BitVec.toNat_add]
    simpa [binOp, go_sem] using h
theorem run_xorv (hk : WK k n) (hx : ρ x = bv k a) (hy : ρ y = bv k b) : (execOp ρ ⟨dst, .binOp .xor T x y T2, ty, pos, aft, gd⟩).run P w = .ok (.value (bv k (a ^^^ b))) w := by
  cases hk
  · have h := u32_xor_nat a.toNat b.toNat a.isLt b.isLt
    simp only [execOp, hx, hy, bv, iN, BitVec.toNat_xor]
    simpa [binOp, go_sem] using h
  · have h := u64_xor_nat a.toNat b.toNat a.isLt b.isLt
    simp only [execOp, hx, hy, bv, iN, BitVec.toNat_xor]
    simpa [binOp, go_sem] using h
theorem run_andv (hk : WK k n) (hx : ρ x = bv k a) (hy : ρ y = bv k b) : (execOp ρ ⟨dst, .binOp .and T x y T2, ty, pos, aft, gd⟩).run P w = .ok (.value (bv k (a &&& b))) w := by
  cases hk
  · have h := run_and32 (P := P) (w := w) (dst := dst) (T := T) (T2 := T2) (ty := ty) (pos := pos) (aft := aft) (gd := gd) hx hy a.isLt b.isLt
    unfold bv; rw [BitVec.toNat_and]; exact h
  · have h := run_and64 (P := P) (w := w) (dst := dst) (T := T) (T2 := T2) (ty := ty) (pos := pos) (aft := aft) (gd := gd) hx hy a.isLt b.isLt
    unfold bv; rw [BitVec.toNat_and]; exact h
theorem run_orv (hk : WK k n) (hx : ρ x = bv k a) (hy : ρ y = bv k b) : (execOp ρ ⟨dst, .binOp .or T x y T2, ty, pos, aft, gd⟩).run P w = .ok (.value (bv k (a ||| b))) w := by
  cases hk
  · have h := run_or32 (P := P) (w := w) (dst := dst) (T := T) (T2 := T2) (ty := ty) (pos := pos) (aft := aft) (gd := gd) hx hy a.isLt b.isLt
    unfold bv; rw [BitVec.toNat_or]; exact h
  · have h := run_or64 (P := P) (w := w) (dst := dst) (T := T) (T2 := T2) (ty := ty) (pos := pos) (aft := aft) (gd := gd) hx hy a.isLt b.isLt
    unfold bv; rw [BitVec.toNat_or]; exact h
theorem run_shrv {k2 : IntKind} {m : Nat} (hk : WK k n) (hx : ρ x = bv k a) (hy : ρ y = iN k2 m) : (execOp ρ ⟨dst, .binOp .shr T x y T2, ty, pos, aft, gd⟩).run P w = .ok (.value (bv k (a >>> m))) w := by
  have e : (a >>> m).toNat = a.toNat / 2 ^ m := by rw [BitVec.toNat_ushiftRight, Nat.shiftRight_eq_div_pow]
  have key : m ≤ k.bits ∨ k.bits < m := Nat.lt_or_ge k.bits m |>.symm
  rcases key with h | h
  · have := run_shr (P := P) (w := w) (dst := dst) (T := T) (T2 := T2) (ty := ty) (pos := pos) (aft := aft) (gd := gd) hx hy h
    rw [this, bv, e]
  · have hz : ∀ {j : Nat}, n ≤ j → a.toNat / 2 ^ j = 0 := fun {j} hj => Nat.div_eq_of_lt (Nat.lt_of_lt_of_le a.isLt (Nat.pow_le_pow_right (by decide) hj))
    have e2 : min m k.bits = k.bits := Nat.min_eq_right (Nat.le_of_lt h)
    cases hk
    · have h3 : a.toNat / 2 ^ m = a.toNat / 2 ^ 32 := by rw [hz (j := m) (by simp [IntKind.bits] at h; omega), hz (j := 32) (by omega)]
      simp only [execOp, hx, hy, bv, iN, e, h3]
      simp [IntKind.bits] at e2
      simp [binOp, go_sem, e2]
    · have h3 : a.toNat / 2 ^ m = a.toNat / 2 ^ 64 := by rw [hz (j := m) (by simp [IntKind.bits] at h; omega), hz (j := 64) (by omega)]
      simp only [execOp, hx, hy, bv, iN, e, h3]
      simp [IntKind.bits] at e2
      simp [binOp, go_sem, e2]
theorem run_shlv {k2 : IntKind} {m : Nat} (hk : WK k n) (hx : ρ x = bv k a) (hy : ρ y = iN k2 m) (hm : m ≤ n) : (execOp ρ ⟨dst, .binOp .shl T x y T2, ty, pos, aft, gd⟩).run P w = .ok (.value (bv k (a <<< m))) w := by
  have e : (a <<< m).toNat = a.toNat * 2 ^ m % 2 ^ n := by rw [BitVec.toNat_shiftLeft, Nat.shiftLeft_eq]
  cases hk
  · have h := u32n (a.toNat * 2 ^ m)
    have e2 : min m 32 = m := Nat.min_eq_left hm
    simp only [execOp, hx, hy, bv, iN, e]
    simpa [binOp, go_sem, e2] using h
  · have h := u64n (a.toNat * 2 ^ m)
    have e2 : min m 64 = m := Nat.min_eq_left hm
    simp only [execOp, hx, hy, bv, iN, e]
    simpa [binOp, go_sem, e2] using h
end
end Go.Proofs.Ythljhhhjdajfhaa
