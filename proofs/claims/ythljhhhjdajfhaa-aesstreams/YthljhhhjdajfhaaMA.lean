/-
  mac's base: an array of 64 bytes, texts that are copied and turned, rows of texts. Nothing of a law.
-/
import Derived.Test.YthljhhhjdajfhaaHU
import Derived.Lib.LazyBuf
namespace Go.Proofs.Ythljhhhjdajfhaa
open Go.RowKit

theorem infoK (l : List UInt8) (h : l.length = 16) : (Try.prog.info? 37).map (·.size) = some (bc l).size := by rw [bc_size, h]; kernel_rfl
section
variable {ρ : Operand → Value} {x y z u : Operand} {w : World} {dst : Option Tmp} {T T2 ty : TypeId} {pos : String} {aft : Array Edge} {gd : Option (Nat × Bool)} {q : Nat}
theorem run_allocK : (execOp ρ ⟨dst, .alloc 37, ty, pos, aft, gd⟩).run Try.prog w = .ok (.value (.pointer (some ⟨w.heap.size, 0, none⟩))) (w.alloc (.cells (bc (List.replicate 16 0)) 37)) := by kernel_rfl
theorem run_cut39 (hx : ρ x = .pointer (some ⟨q, 0, none⟩)) : (execOp ρ ⟨dst, .slice 37 x none none none, ty, pos, aft, gd⟩).run Try.prog w = .ok (.value (.slice (some ⟨q, 0, none⟩) 16 16)) w := by
  simp only [execOp, hx]
  go_simp
theorem run_copys {t : TypeId} {l : List UInt8} {s : ByteArray} (hx : ρ x = .slice (some ⟨q, 0, none⟩) 16 16) (hy : ρ y = .string s) (hq : Blk w q t (bc l)) (hl : l.length = 16) (hs : s.size ≤ 16) :
    (execOp ρ ⟨dst, .call { callee := .builtin .copy, args := #[x, y], argTypes := #[31, 9] }, ty, pos, aft, gd⟩).run Try.prog w = .ok (.value (iN .i64 s.size)) (w.setCells q 0 ((bl s).map by8)) := by
  have e := run_copy_string (P := Try.prog) w 31 9 ty 5 q 0 16 16 s Try.underlying31 (fun w => Try.sizeOf5 w) hs (fun j hj => by
    rw [hq.cell]
    simp [bc_size]
    omega) (fun j hj => hq.free _ (by rw [bc_size]; omega))
  have e0 : (execOp ρ ⟨dst, .call { callee := .builtin .copy, args := #[x, y], argTypes := #[31, 9] }, ty, pos, aft, gd⟩).run Try.prog w = ((Builtin.copy_ #[31, 9] ty #[ρ x, ρ y]).run Try.prog w).andThen (fun a w' => .ok (.value a) w') := by simp [go_sem]
  rw [e0, hx, hy, e]
  rfl
theorem run_textg {m c : Nat} {t : TypeId} {l : List UInt8} (hx : ρ x = .slice (some ⟨q, 0, none⟩) m c) (h : Blk w q t (bc l)) (hm : m ≤ l.length) :
    (execOp ρ ⟨dst, .convert 31 9 x, ty, pos, aft, gd⟩).run Try.prog w = .ok (.value (.string ⟨(l.take m).toArray⟩)) w := by
  have e0 : (l.take m).length = m := by rw [List.length_take]; omega
  have e := run_convert_bytes_back (P := Try.prog) w 31 9 5 ⟨q, 0, none⟩ c (l.take m) Try.underlying31 Try.underlying5 Try.underlying9 (fun j hj => by
    have hadd : (⟨q, 0, none⟩ : Addr).add j = ⟨q, j, none⟩ := by unfold Addr.add; split <;> simp_all
    rw [e0] at hj
    rw [hadd, h.cell j, bc_get l j (by omega), List.getElem_take, List.getD_eq_getElem?_getD, List.getElem?_eq_getElem (by omega)]
    rfl)
  rw [e0] at e
  simp only [execOp, hx, Sem.run_bind, e, Result.andThen_ok, Sem.run_pure]
theorem run_xorb {a b : UInt8} (hx : ρ x = by8 a) (hy : ρ y = by8 b) : (execOp ρ ⟨dst, .binOp .xor T x y T2, ty, pos, aft, gd⟩).run Try.prog w = .ok (.value (by8 (a ^^^ b))) w := by
  have h := u8_xor_nat a.toNat b.toNat a.toNat_lt b.toNat_lt
  rw [← UInt8.toNat_xor] at h
  simp only [execOp, hx, hy, by8, iN]
  simpa [binOp, go_sem] using h
theorem run_orb {a b : UInt8} (hx : ρ x = by8 a) (hy : ρ y = by8 b) : (execOp ρ ⟨dst, .binOp .or T x y T2, ty, pos, aft, gd⟩).run Try.prog w = .ok (.value (by8 (a ||| b))) w := by
  have h := u8_or_nat a.toNat b.toNat a.toNat_lt b.toNat_lt
  rw [← UInt8.toNat_or] at h
  simp only [execOp, hx, hy, by8, iN]
  simpa [binOp, go_sem] using h
end
section
variable {ops : Array Oper} {Q : Exit → Act → World → Prop} {a : Act} {w w0 : World} {L : List (Nat × TypeId × Array Value)} {rest : List Oper} {dst : Option Tmp} {ty : TypeId} {pos : String} {aft : Array Edge} {gd : Option (Nat × Bool)} {x y : Operand}
theorem wl_copys {q : Nat} {t : TypeId} {l l' : List UInt8} {s : ByteArray} (H : HA w0 L w) (i : Nat) (hi : L[i]? = some (q, t, bc l))
    (hw : Region.wanted ⟨dst, .call { callee := .builtin .copy, args := #[x, y], argTypes := #[31, 9] }, ty, pos, aft, gd⟩ (yielded ops a.tmps) = true)
    (hx : a.eval x = .slice (some ⟨q, 0, none⟩) 16 16) (hy : a.eval y = .string s) (hl : l.length = 16) (hs : s.size ≤ 16) (he : laidOn l 0 (bl s) = l')
    (h : ∀ w', HA w0 (L.set i (q, t, bc l')) w' → WL Try.prog ops Q rest (a.put dst (iN .i64 s.size)) w') :
    WL Try.prog ops Q (⟨dst, .call { callee := .builtin .copy, args := #[x, y], argTypes := #[31, 9] }, ty, pos, aft, gd⟩ :: rest) a w := by
  refine ⟨?_⟩
  unfold wpList
  rw [if_pos hw]
  refine .inl ?_
  unfold Oper.wp
  rw [run_copys hx hy (H.get i hi) hl hs]
  have hp := H.part i hi (o := 0) (vs := (bl s).map by8) (by rw [List.length_map, bc_size, bl_len]; omega)
  rw [laid_bc, he] at hp
  exact (h _ hp).out
/-- a call whose answer is told by what holds of it -/
theorem wl_callq {f : FuncId} {xs : Array Operand} {ats : Array TypeId} {R : Value → World → Prop} (H : HA w0 L w) (hw : Region.wanted ⟨dst, .call { callee := .value (.func f), args := xs, argTypes := ats }, ty, pos, aft, gd⟩ (yielded ops a.tmps) = true)
    (hr : ∀ args w, (callFunc f args).run Try.prog w = .ok (.enter f args) w) (args : Array Value) (ha : #[] ++ xs.map a.eval ++ #[] = args) (hc : Calls Try.prog f args w fun e w' => ∃ v, e = .returned v ∧ R v w' ∧ Below w.heap.size w w')
    (h : ∀ v w', R v w' → HA w0 L w' → WL Try.prog ops Q rest (a.put dst v) w') : WL Try.prog ops Q (⟨dst, .call { callee := .value (.func f), args := xs, argTypes := ats }, ty, pos, aft, gd⟩ :: rest) a w := by
  refine ⟨?_⟩
  unfold wpList
  rw [if_pos hw]
  refine .inl ?_
  unfold Oper.wp
  rw [execOp_call_go, ha, hr]
  refine hc.mono ?_
  rintro e w' ⟨v, rfl, hv, hb⟩
  exact (h v w' hv (H.keep _ _ hb)).out
end
end Go.Proofs.Ythljhhhjdajfhaa
