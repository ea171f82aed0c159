/-
  mac's base: an array of 64 bytes, texts that are copied and turned, rows of texts. Nothing of a law.
-/
import Derived.Test.YtmlldbkhphngeaaDoorHP
import Derived.Test.YtmlldbkhphngeaaDoorHR
import Derived.Lib.LazyBuf
namespace Go.Proofs.YtmlldbkhphngeaaDoor
open Go.RowKit

theorem infoK (l : List UInt8) (h : l.length = 64) : (Tryd.prog.info? 39).map (·.size) = some (bc l).size := by rw [bc_size, h]; kernel_rfl
section
variable {ρ : Operand → Value} {x y z u : Operand} {w : World} {dst : Option Tmp} {T T2 ty : TypeId} {pos : String} {aft : Array Edge} {gd : Option (Nat × Bool)} {q : Nat}
theorem run_allocK : (execOp ρ ⟨dst, .alloc 39, ty, pos, aft, gd⟩).run Tryd.prog w = .ok (.value (.pointer (some ⟨w.heap.size, 0, none⟩))) (w.alloc (.cells (bc (List.replicate 64 0)) 39)) := by kernel_rfl
theorem run_cut39 (hx : ρ x = .pointer (some ⟨q, 0, none⟩)) : (execOp ρ ⟨dst, .slice 39 x none none none, ty, pos, aft, gd⟩).run Tryd.prog w = .ok (.value (.slice (some ⟨q, 0, none⟩) 64 64)) w := by
  simp only [execOp, hx]
  go_simp
theorem run_copys {t : TypeId} {l : List UInt8} {s : ByteArray} (hx : ρ x = .slice (some ⟨q, 0, none⟩) 64 64) (hy : ρ y = .string s) (hq : Blk w q t (bc l)) (hl : l.length = 64) (hs : s.size ≤ 64) :
    (execOp ρ ⟨dst, .call { callee := .builtin .copy, args := #[x, y], argTypes := #[31, 9] }, ty, pos, aft, gd⟩).run Tryd.prog w = .ok (.value (iN .i64 s.size)) (w.setCells q 0 ((bl s).map by8)) := by
  have e := run_copy_string (P := Tryd.prog) w 31 9 ty 5 q 0 64 64 s Tryd.underlying31 (fun w => Tryd.sizeOf5 w) hs (fun j hj => by
    rw [hq.cell]
    simp [bc_size]
    omega) (fun j hj => hq.free _ (by rw [bc_size]; omega))
  have e0 : (execOp ρ ⟨dst, .call { callee := .builtin .copy, args := #[x, y], argTypes := #[31, 9] }, ty, pos, aft, gd⟩).run Tryd.prog w = ((Builtin.copy_ #[31, 9] ty #[ρ x, ρ y]).run Tryd.prog w).andThen (fun a w' => .ok (.value a) w') := by simp [go_sem]
  rw [e0, hx, hy, e]
  rfl
theorem run_textg {m c : Nat} {t : TypeId} {l : List UInt8} (hx : ρ x = .slice (some ⟨q, 0, none⟩) m c) (h : Blk w q t (bc l)) (hm : m ≤ l.length) :
    (execOp ρ ⟨dst, .convert 31 9 x, ty, pos, aft, gd⟩).run Tryd.prog w = .ok (.value (.string ⟨(l.take m).toArray⟩)) w := by
  have e0 : (l.take m).length = m := by rw [List.length_take]; omega
  have e := run_convert_bytes_back (P := Tryd.prog) w 31 9 5 ⟨q, 0, none⟩ c (l.take m) Tryd.underlying31 Tryd.underlying5 Tryd.underlying9 (fun j hj => by
    have hadd : (⟨q, 0, none⟩ : Addr).add j = ⟨q, j, none⟩ := by unfold Addr.add; split <;> simp_all
    rw [e0] at hj
    rw [hadd, h.cell j, bc_get l j (by omega), List.getElem_take, List.getD_eq_getElem?_getD, List.getElem?_eq_getElem (by omega)]
    rfl)
  rw [e0] at e
  simp only [execOp, hx, Sem.run_bind, e, Result.andThen_ok, Sem.run_pure]
theorem run_xorb {a b : UInt8} (hx : ρ x = by8 a) (hy : ρ y = by8 b) : (execOp ρ ⟨dst, .binOp .xor T x y T2, ty, pos, aft, gd⟩).run Tryd.prog w = .ok (.value (by8 (a ^^^ b))) w := by
  have h := u8_xor_nat a.toNat b.toNat a.toNat_lt b.toNat_lt
  rw [← UInt8.toNat_xor] at h
  simp only [execOp, hx, hy, by8, iN]
  simpa [binOp, go_sem] using h
theorem run_orb {a b : UInt8} (hx : ρ x = by8 a) (hy : ρ y = by8 b) : (execOp ρ ⟨dst, .binOp .or T x y T2, ty, pos, aft, gd⟩).run Tryd.prog w = .ok (.value (by8 (a ||| b))) w := by
  have h := u8_or_nat a.toNat b.toNat a.toNat_lt b.toNat_lt
  rw [← UInt8.toNat_or] at h
  simp only [execOp, hx, hy, by8, iN]
  simpa [binOp, go_sem] using h
theorem run_bs3 {a b c : ByteArray} (hx : ρ x = .string a) (hy : ρ y = .string b) (hz : ρ z = .string c) : (execOp ρ ⟨dst, .buildSlice 38 3 #[(0, x), (1, y), (2, z)], ty, pos, aft, gd⟩).run Tryd.prog w = .ok (.value (.slice (some ⟨w.heap.size, 0, none⟩) 3 3)) (w.alloc (.cells #[.string a, .string b, .string c] 9)) := by
  simp only [execOp]
  go_simp
theorem run_bs4 {a b c d : ByteArray} (hx : ρ x = .string a) (hy : ρ y = .string b) (hz : ρ z = .string c) (hu : ρ u = .string d) : (execOp ρ ⟨dst, .buildSlice 38 4 #[(0, x), (1, y), (2, z), (3, u)], ty, pos, aft, gd⟩).run Tryd.prog w = .ok (.value (.slice (some ⟨w.heap.size, 0, none⟩) 4 4)) (w.alloc (.cells #[.string a, .string b, .string c, .string d] 9)) := by
  simp only [execOp]
  go_simp
end
section
variable {ops : Array Oper} {Q : Exit → Act → World → Prop} {a : Act} {w w0 : World} {L : List (Nat × TypeId × Array Value)} {rest : List Oper} {dst : Option Tmp} {ty : TypeId} {pos : String} {aft : Array Edge} {gd : Option (Nat × Bool)} {x y : Operand}
theorem wl_copys {q : Nat} {t : TypeId} {l l' : List UInt8} {s : ByteArray} (H : HA w0 L w) (i : Nat) (hi : L[i]? = some (q, t, bc l))
    (hw : Region.wanted ⟨dst, .call { callee := .builtin .copy, args := #[x, y], argTypes := #[31, 9] }, ty, pos, aft, gd⟩ (yielded ops a.tmps) = true)
    (hx : a.eval x = .slice (some ⟨q, 0, none⟩) 64 64) (hy : a.eval y = .string s) (hl : l.length = 64) (hs : s.size ≤ 64) (he : laidOn l 0 (bl s) = l')
    (h : ∀ w', HA w0 (L.set i (q, t, bc l')) w' → WL Tryd.prog ops Q rest (a.put dst (iN .i64 s.size)) w') :
    WL Tryd.prog ops Q (⟨dst, .call { callee := .builtin .copy, args := #[x, y], argTypes := #[31, 9] }, ty, pos, aft, gd⟩ :: rest) a w := by
  refine ⟨?_⟩
  unfold wpList
  rw [if_pos hw]
  refine .inl ?_
  unfold Oper.wp
  rw [run_copys hx hy (H.get i hi) hl hs]
  have hp := H.part i hi (o := 0) (vs := (bl s).map by8) (by rw [List.length_map, bc_size, bl_len]; omega)
  rw [laid_bc, he] at hp
  exact (h _ hp).out
/-- a call whose answer is told by what holds of it -/
theorem wl_callq {f : FuncId} {xs : Array Operand} {ats : Array TypeId} {R : Value → World → Prop} (H : HA w0 L w) (hw : Region.wanted ⟨dst, .call { callee := .value (.func f), args := xs, argTypes := ats }, ty, pos, aft, gd⟩ (yielded ops a.tmps) = true)
    (hr : ∀ args w, (callFunc f args).run Tryd.prog w = .ok (.enter f args) w) (args : Array Value) (ha : #[] ++ xs.map a.eval ++ #[] = args) (hc : Calls Tryd.prog f args w fun e w' => ∃ v, e = .returned v ∧ R v w' ∧ Below w.heap.size w w')
    (h : ∀ v w', R v w' → HA w0 L w' → WL Tryd.prog ops Q rest (a.put dst v) w') : WL Tryd.prog ops Q (⟨dst, .call { callee := .value (.func f), args := xs, argTypes := ats }, ty, pos, aft, gd⟩ :: rest) a w := by
  refine ⟨?_⟩
  unfold wpList
  rw [if_pos hw]
  refine .inl ?_
  unfold Oper.wp
  rw [execOp_call_go, ha, hr]
  refine hc.mono ?_
  rintro e w' ⟨v, rfl, hv, hb⟩
  exact (h v w' hv (H.keep _ _ hb)).out
theorem grow_texts {w w0 : World} {ty : TypeId} {s : ByteArray} {ps : List ByteArray} {o : Option Addr} {n c : Nat} (H : HA w0 [] w) (hn : ps.length = n) (hk : n ≤ 1000)
    (hps : ∀ i, i < n → ∃ q, o = some ⟨q, 0, none⟩ ∧ w.cell? ⟨q, i, none⟩ = some (.string (ps.getD i ByteArray.empty))) (ho : o = none → c = 0) :
    ∃ o' c' w', (Builtin.append_ #[38, 38] ty #[.slice (some ⟨w.heap.size, 0, none⟩) 1 1, .slice o n c]).run Tryd.prog (w.alloc (.cells (psc [s]) 9)) = .ok (.slice o' (n + 1) c') w' ∧ HA w0 [] w' ∧ ∀ i, i < n + 1 → ∃ q, o' = some ⟨q, 0, none⟩ ∧ w'.cell? ⟨q, i, none⟩ = some (.string ((s :: ps).getD i ByteArray.empty)) := by
  have H1 := H.make 9 (psc [s])
  have hown1 : (w.alloc (.cells (psc [s]) 9)).ownsRow w0.heap.size 9 1 (.slice (some ⟨w.heap.size, 0, none⟩) 1 1) 1 ([s].map Value.string) :=
    ⟨rfl, .inr ⟨w.heap.size, 1, psc [s], rfl, H.old.size, heap_alloc_last w _, Nat.le_refl 1, by decide, rfl, rfl⟩⟩
  obtain ⟨i, hi, hh⟩ := Option.map_eq_some_iff.1 info9
  simp only [Prod.mk.injEq] at hh
  cases o with
  | some ad =>
    obtain ⟨v', w', hrun, hown', hgr, _⟩ := run_append_own (P := Tryd.prog) (w.alloc (.cells (psc [s]) 9)) w0.heap.size 38 ty 9 i (.string ByteArray.empty) 1 16 Tryd.underlying38 hi hh.1 hh.2.1 hh.2.2 rfl (by decide) _ 1 _ hown1 ad n c (ps.map Value.string) (by rw [List.length_map, hn, Nat.mul_one]) (fun j u hu => by
      rw [List.getElem?_map] at hu
      obtain ⟨p, hp, rfl⟩ := Option.map_eq_some_iff.1 hu
      have hj : j < n := by
        rw [← hn]
        exact (List.getElem?_eq_some_iff.1 hp).1
      obtain ⟨q, hq, hc⟩ := hps j hj
      obtain rfl : ad = ⟨q, 0, none⟩ := Option.some.inj hq
      have hadd : (⟨q, 0, none⟩ : Addr).add j = ⟨q, j, none⟩ := by unfold Addr.add; split <;> simp_all
      rw [hadd, ((Below.refl _ w).alloc (Nat.le_refl _) (Obj.cells (psc [s]) 9)).cell (p := ⟨q, j, none⟩) (World.block_lt_of_cell? w ⟨q, j, none⟩ hc), hc, List.getD_eq_getElem?_getD, hp]
      rfl) (fun u hu => by
      obtain ⟨p, _, rfl⟩ := List.mem_map.1 hu
      rfl) (by unfold maxLen; omega) (by omega) H1.old.size
    rw [← List.map_append] at hown'
    have hbel : Below w0.heap.size w0 w' := H1.old.grown hgr H1.old.size (fun r hr => (hown1.lt r hr).1)
    obtain ⟨o2', c2', rfl, hcell⟩ := owns_parts hown'
    rw [Nat.add_comm 1 n] at hcell hrun
    exact ⟨o2', c2', w', hrun, ⟨hbel, (fun x hx => by cases hx), (fun x hx => by cases hx), List.nodup_nil⟩, hcell⟩
  | none =>
    have hc0 := ho rfl
    subst hc0
    have hn0 : n = 0 := by
      rcases n with _ | n
      · rfl
      · obtain ⟨q, hq, _⟩ := hps 0 (by omega)
        cases hq
    subst hn0
    obtain rfl : ps = [] := List.eq_nil_of_length_eq_zero hn
    have e : (Builtin.append_ #[38, 38] ty #[.slice (some ⟨w.heap.size, 0, none⟩) 1 1, .slice none 0 0]).run Tryd.prog (w.alloc (.cells (psc [s]) 9)) = .ok (.slice (some ⟨w.heap.size, 0, none⟩) 1 1) (w.alloc (.cells (psc [s]) 9)) := by
      simp [Builtin.append_, run_underlying Tryd.underlying38, sizeOf, typeInfo, hi, hh.2.1, Builtin.lenOf, Builtin.firstCells, Addr.add_lit]
      rfl
    exact ⟨_, _, _, e, H1.tl, fun i hi => ⟨_, rfl, by
      obtain rfl : i = 0 := by omega
      rw [(H1.get 0 rfl).cell 0]
      rfl⟩⟩
/-- a row of one text, and texts behind it -/
theorem wl_behind {o1 o2 : Oper} {s : ByteArray} {ps : List ByteArray} {o : Option Addr} {n c : Nat} (H : HA w0 [] w) (hn : ps.length = n) (hk : n ≤ 1000)
    (hps : ∀ i, i < n → ∃ q, o = some ⟨q, 0, none⟩ ∧ w.cell? ⟨q, i, none⟩ = some (.string (ps.getD i ByteArray.empty))) (ho : o = none → c = 0)
    (hw1 : Region.wanted o1 (yielded ops a.tmps) = true) (hr1 : (execOp a.eval o1).run Tryd.prog w = .ok (.value (.slice (some ⟨w.heap.size, 0, none⟩) 1 1)) (w.alloc (.cells (psc [s]) 9)))
    (hw2 : ∀ q, Region.wanted o2 (yielded ops (a.put o1.dst (.slice (some ⟨q, 0, none⟩) 1 1)).tmps) = true) (hr2 : ∀ q w, (execOp (a.put o1.dst (.slice (some ⟨q, 0, none⟩) 1 1)).eval o2).run Tryd.prog w = .ok (.value (.slice o n c)) w)
    (hw : ∀ q, Region.wanted ⟨dst, .call { callee := .builtin .append, args := #[x, y], argTypes := #[38, 38] }, ty, pos, aft, gd⟩ (yielded ops ((a.put o1.dst (.slice (some ⟨q, 0, none⟩) 1 1)).put o2.dst (.slice o n c)).tmps) = true)
    (hx : ∀ q, ((a.put o1.dst (.slice (some ⟨q, 0, none⟩) 1 1)).put o2.dst (.slice o n c)).eval x = .slice (some ⟨q, 0, none⟩) 1 1) (hy : ∀ q, ((a.put o1.dst (.slice (some ⟨q, 0, none⟩) 1 1)).put o2.dst (.slice o n c)).eval y = .slice o n c)
    (h : ∀ q o' c' w', HA w0 [] w' → (∀ i, i < n + 1 → ∃ q, o' = some ⟨q, 0, none⟩ ∧ w'.cell? ⟨q, i, none⟩ = some (.string ((s :: ps).getD i ByteArray.empty))) → WL Tryd.prog ops Q rest (((a.put o1.dst (.slice (some ⟨q, 0, none⟩) 1 1)).put o2.dst (.slice o n c)).put dst (.slice o' (n + 1) c')) w') :
    WL Tryd.prog ops Q (o1 :: o2 :: ⟨dst, .call { callee := .builtin .append, args := #[x, y], argTypes := #[38, 38] }, ty, pos, aft, gd⟩ :: rest) a w := by
  refine ⟨?_⟩
  unfold wpList
  rw [if_pos hw1]
  refine .inl ?_
  unfold Oper.wp
  rw [hr1]
  show wpList _ _ _ _ _ _
  unfold wpList
  rw [if_pos (hw2 _)]
  refine .inl ?_
  unfold Oper.wp
  rw [hr2]
  show wpList _ _ _ _ _ _
  unfold wpList
  rw [if_pos (hw _)]
  refine .inl ?_
  unfold Oper.wp
  have e1 : ∀ (ρ : Operand → Value) (w : World), (execOp ρ ⟨dst, .call { callee := .builtin .append, args := #[x, y], argTypes := #[38, 38] }, ty, pos, aft, gd⟩).run Tryd.prog w = ((Builtin.append_ #[38, 38] ty #[ρ x, ρ y]).run Tryd.prog w).andThen (fun a w' => .ok (.value a) w') := fun ρ w => by simp [go_sem]
  have e2 : ∃ o' c' w', (Builtin.append_ #[38, 38] ty #[.slice (some ⟨w.heap.size, 0, none⟩) 1 1, .slice o n c]).run Tryd.prog (w.alloc (.cells (psc [s]) 9)) = .ok (.slice o' (n + 1) c') w' ∧ HA w0 [] w' ∧ ∀ i, i < n + 1 → ∃ q, o' = some ⟨q, 0, none⟩ ∧ w'.cell? ⟨q, i, none⟩ = some (.string ((s :: ps).getD i ByteArray.empty)) := grow_texts H hn hk hps ho
  obtain ⟨o', c', w', hrun, HA', hcell⟩ := e2
  rw [e1, hx, hy, hrun]
  exact (h _ o' c' w' HA' hcell).out
end
end Go.Proofs.YtmlldbkhphngeaaDoor
