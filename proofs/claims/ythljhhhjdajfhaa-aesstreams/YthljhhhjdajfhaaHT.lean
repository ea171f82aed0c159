/-
  More steps: appending in a row, slices that are built, numbers that are shifted far.
-/
import Derived.Test.YthljhhhjdajfhaaHY
namespace Go.Proofs.Ythljhhhjdajfhaa
open Go.RowKit

theorem HA.tl {w0 w : World} {L : List (Nat × TypeId × Array Value)} {x : Nat × TypeId × Array Value} (h : HA w0 (x :: L) w) : HA w0 L w :=
  ⟨h.old, fun y hy => h.blk y (List.mem_cons_of_mem _ hy), fun y hy => h.own y (List.mem_cons_of_mem _ hy), by have := h.nd; rw [List.map_cons, List.nodup_cons] at this; exact this.2⟩
section
variable {ρ : Operand → Value} {x y : Operand} {w : World} {dst : Option Tmp} {T T2 ty : TypeId} {pos : String} {aft : Array Edge} {gd : Option (Nat × Bool)} {P : Program} {k : IntKind} {a b : Nat}
theorem run_leq (hx : ρ x = iN k a) (hy : ρ y = iN k b) (t : Bool) (ht : decide (a ≤ b) = t) : (execOp ρ ⟨dst, .binOp .leq T x y T2, ty, pos, aft, gd⟩).run P w = .ok (.value (.bool t)) w := by
  subst ht
  simp only [execOp, hx, hy, iN]
  simp [binOp, go_sem]
theorem run_gtr (hx : ρ x = iN k a) (hy : ρ y = iN k b) (t : Bool) (ht : decide (b < a) = t) : (execOp ρ ⟨dst, .binOp .gtr T x y T2, ty, pos, aft, gd⟩).run P w = .ok (.value (.bool t)) w := by
  subst ht
  simp only [execOp, hx, hy, iN]
  simp [binOp, go_sem]
theorem run_shrn {k2 : IntKind} (ha : a < 18446744073709551616) (hx : ρ x = iN .u64 a) (hy : ρ y = iN k2 b) : (execOp ρ ⟨dst, .binOp .shr T x y T2, ty, pos, aft, gd⟩).run P w = .ok (.value (iN .u64 (a / 2 ^ b))) w := by
  have e : a = (BitVec.ofNat 64 a).toNat := by rw [BitVec.toNat_ofNat, Nat.mod_eq_of_lt ha]
  have h := run_shrv (P := P) (w := w) (dst := dst) (T := T) (T2 := T2) (ty := ty) (pos := pos) (aft := aft) (gd := gd) (a := BitVec.ofNat 64 a) (ρ := ρ) WK.l (by unfold bv; rw [← e]; exact hx) hy
  rw [h]
  unfold bv
  rw [BitVec.toNat_ushiftRight, ← e, Nat.shiftRight_eq_div_pow]
theorem run_lown (hx : ρ x = iN k a) (hT : P.underlying T = some (.int k)) (hT2 : P.underlying T2 = some (.int .u8)) : (execOp ρ ⟨dst, .convert T T2 x, ty, pos, aft, gd⟩).run P w = .ok (.value (by8 (UInt8.ofNat a))) w := by
  have h : IntKind.u8.wrap (a : Int) = ((a % 256 : Nat) : Int) := by simp [IntKind.wrap, IntKind.bits, IntKind.signed]
  simp only [execOp, hx, by8, iN, UInt8.toNat_ofNat']
  simpa [go_sem, hT, hT2] using h
theorem run_build1 {u : UInt8} (hx : ρ x = by8 u) : (execOp ρ ⟨dst, .buildSlice 31 1 #[(0, x)], ty, pos, aft, gd⟩).run Try.prog w = .ok (.value (.slice (some ⟨w.heap.size, 0, none⟩) 1 1)) (w.alloc (.cells (bc [u]) 5)) := by
  simp only [by8, iN] at hx
  simp only [execOp]
  go_simp
  rfl
end
section
variable {ops : Array Oper} {Q : Exit → Act → World → Prop} {a : Act} {w w0 : World} {L : List (Nat × TypeId × Array Value)} {rest : List Oper} {dst : Option Tmp} {ty : TypeId} {pos : String} {aft : Array Edge} {gd : Option (Nat × Bool)} {x y : Operand}
theorem HA.app {q m : Nat} {l n l' : List UInt8} (H : HA w0 L w) (i : Nat) (hi : L[i]? = some (q, 5, bc l)) (hroom : m + n.length ≤ l.length) (he : laidOn l m n = l') : HA w0 (L.set i (q, 5, bc l')) (w.setCells q m (n.map by8)) := by
  have := H.part i hi (o := m) (vs := n.map by8) (by rw [List.length_map, bc_size]; exact hroom)
  rw [laid_bc, he] at this
  exact this
theorem wl_app {q r m c j c2 : Nat} {l n l' : List UInt8} (H : HA w0 L w) (i i' : Nat) (hi : L[i]? = some (q, 5, bc l)) (hi' : L[i']? = some (r, 5, bc n))
    (hw : Region.wanted ⟨dst, .call { callee := .builtin .append, args := #[x, y], argTypes := #[31, 31] }, ty, pos, aft, gd⟩ (yielded ops a.tmps) = true)
    (hx : a.eval x = .slice (some ⟨q, 0, none⟩) m c) (hy : a.eval y = .slice (some ⟨r, 0, none⟩) j c2) (hj : n.length = j) (hroom : m + j ≤ c) (hl : l.length = c) (he : laidOn l m n = l')
    (h : ∀ w', HA w0 (L.set i (q, 5, bc l')) w' → WL Try.prog ops Q rest (a.put dst (.slice (some ⟨q, 0, none⟩) (m + j) c)) w') :
    WL Try.prog ops Q (⟨dst, .call { callee := .builtin .append, args := #[x, y], argTypes := #[31, 31] }, ty, pos, aft, gd⟩ :: rest) a w := by
  refine ⟨?_⟩
  unfold wpList
  rw [if_pos hw]
  refine .inl ?_
  unfold Oper.wp
  rw [run_app hx hy (H.get i hi) (H.get i' hi') hj hroom hl]
  exact (h _ (H.app i hi (by omega) he)).out
theorem wl_mks {o : Oper} {n m : Nat} {c : Array Value} (H : HA w0 L w) (t : TypeId) (hw : Region.wanted o (yielded ops a.tmps) = true) (hr : (execOp a.eval o).run Try.prog w = .ok (.value (.slice (some ⟨w.heap.size, 0, none⟩) n m)) (w.alloc (.cells c t)))
    (h : ∀ q w', HA w0 ((q, t, c) :: L) w' → WL Try.prog ops Q rest (a.put o.dst (.slice (some ⟨q, 0, none⟩) n m)) w') : WL Try.prog ops Q (o :: rest) a w := by
  refine ⟨?_⟩
  unfold wpList
  rw [if_pos hw]
  refine .inl ?_
  unfold Oper.wp
  rw [hr]
  exact (h _ _ (H.make t c)).out
end
theorem padb_len (l : List UInt8) (m : Nat) : (l ++ List.replicate m 0).length = l.length + m := by simp
theorem app_pad (l : List UInt8) (m c : Nat) (e : UInt8) (hl : l.length = m) (hm : m < c) : laidOn (l ++ List.replicate (c - m) 0) m [e] = (l ++ [e]) ++ List.replicate (c - (m + 1)) 0 := by
  subst hl
  unfold laidOn
  rw [List.take_left, List.length_cons, List.length_nil, List.drop_append, List.drop_eq_nil_of_le (by omega), List.nil_append, show l.length + (0 + 1) - l.length = 1 by omega, List.drop_replicate]
  rfl
end Go.Proofs.Ythljhhhjdajfhaa
