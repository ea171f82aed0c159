/-
  What the law of both disks needs: steps as they came in, rows, the reference's disk as a value.
-/
import Derived.Test.YtjedhnjjgmbcbaaR13
import Derived.Test.YtjedhnjjgmbcbaaD12
namespace Go.Proofs.Ytjedhnjjgmbcbaa
open Go.RowKit

/-- a step as it came in -/
structure Dd where
  wh : Int
  nm : ByteArray
  s : ByteArray
  n : Int
  ko : Option Addr
  kc : Nat
  ks : List Int
def dd0 : Dd := ⟨0, { data := #[] }, { data := #[] }, 0, none, 0, []⟩
def IntB (w : World) (o : Option Addr) (ks : List Int) : Prop := ∀ i, i < ks.length → ∃ a, o = some a ∧ w.cell? (a.add i) = some (.int .i64 (ks.getD i 0))
structure DdOk (w : World) (a : Addr) (x : Dd) : Prop where
  c0 : w.cell? (a.add 0) = some (.int .i64 x.wh)
  c1 : w.cell? (a.add 1) = some (.string x.nm)
  c2 : w.cell? (a.add 2) = some (.string x.s)
  c3 : w.cell? (a.add 3) = some (.int .i64 x.n)
  c4 : w.cell? (a.add 4) = some (.slice x.ko x.ks.length x.kc)
  i4 : IntB w x.ko x.ks
  k1 : x.ks.length ≤ 9223372036854775807
  k2 : x.ks.length ≤ x.kc
  l1 : x.nm.size ≤ 9223372036854775807
  l2 : x.s.size ≤ 9223372036854775807
  n1 : x.n ≤ 9223372036854775807
def DoA (w : World) (o : Option Addr) (al : List Dd) : Prop := ∀ i, i < al.length → ∃ a, o = some a ∧ DdOk w (a.add (i * 5)) (al.getD i dd0)
theorem DdOk.cell {w : World} {a : Addr} {x : Dd} (h : DdOk w a x) : ∀ j v, (#[.int .i64 x.wh, .string x.nm, .string x.s, .int .i64 x.n, .slice x.ko x.ks.length x.kc] : Array Value)[j]? = some v → w.cell? (a.add j) = some v := fun j v hv => by
  match j, hv with
  | 0, hv => cases hv; exact h.c0
  | 1, hv => cases hv; exact h.c1
  | 2, hv => cases hv; exact h.c2
  | 3, hv => cases hv; exact h.c3
  | 4, hv => cases hv; exact h.c4
  | n + 5, hv => simp at hv
theorem run_eqz {ρ : Operand → Value} {x y : Operand} {w : World} {dst : Option Tmp} {T T2 ty : TypeId} {pos : String} {aft : Array Edge} {gd : Option (Nat × Bool)} {P : Program} {k : IntKind} {a : Int} {b : Nat} (hx : ρ x = .int k a) (hy : ρ y = iN k b) (t : Bool) (ht : decide (a = (b : Int)) = t) : (execOp ρ ⟨dst, .binOp .eql T x y T2, ty, pos, aft, gd⟩).run P w = .ok (.value (.bool t)) w := by
  subst ht
  simp only [execOp, hx, hy, iN]
  simp [binOp, go_sem]
  rw [Bool.eq_iff_iff]
  simp
section
variable {ρ : Operand → Value} {x y : Operand} {w : World} {dst : Option Tmp} {T e ty : TypeId} {pos : String} {aft : Array Edge} {gd : Option (Nat × Bool)}
theorem run_addrg {a : Addr} {n m i sz : Nat} (hT : Try.prog.underlying T = some (.slice e)) (hs : ∀ w, (sizeOf e).run Try.prog w = .ok sz w) (hx : ρ x = .slice (some a) n m) (hy : ρ y = iN .i64 i) (hi : i < n) : (execOp ρ ⟨dst, .indexAddr T x y, ty, pos, aft, gd⟩).run Try.prog w = .ok (.value (.pointer (some (a.add (i * sz))))) w := by
  simp only [execOp, hx, hy, iN]
  simp [go_sem, hT, hs, hi]
theorem run_loadg {a : Addr} {c : Array Value} {D : TypeDesc} (hx : ρ x = .pointer (some a)) (hc : ∀ j v, c[j]? = some v → w.cell? (a.add j) = some v) (hu : Try.prog.underlying T = some D) (hd : D.isRow = true) (hi : (Try.prog.info? T).map (·.size) = some c.size) :
    (execOp ρ ⟨dst, .load T x, ty, pos, aft, gd⟩).run Try.prog w = .ok (.value (.agg c)) w := by
  have hl : (loadCells a c.toList.length).run Try.prog w = .ok c.toList.toArray w := run_loadCells_list (P := Try.prog) w a c.toList (fun j v hv => hc j v (by rw [← Array.getElem?_toList]; exact hv))
  cases hq : Try.prog.info? T with
  | none => simp [hq] at hi
  | some i =>
    have hs : i.size = c.toList.length := by simpa [hq] using hi
    have hagg : (isAgg T).run Try.prog w = .ok true w := by
      unfold isAgg
      rw [Sem.run_bind, run_underlying hu w]
      cases D <;> simp_all
    have hload : (loadVar T a).run Try.prog w = .ok (.agg c) w := by
      rw [Array.length_toList] at hl hs
      simp [loadVar, Sem.run_bind, hagg, sizeOf, typeInfo, hq, hs, hl]
    simp only [execOp, hx, Instr.loadAt, Instr.sureAddr, Sem.run_bind, Sem.run_pure, Result.andThen_ok, hload]
theorem run_slP {a : Option Addr} {n cap m : Nat} (hx : ρ x = .slice a n cap) (hy : ρ y = iN .i64 m) (hm : m ≤ cap) : (execOp ρ ⟨dst, .slice 26 x none (some y) none, ty, pos, aft, gd⟩).run Try.prog w = .ok (.value (.slice a m cap)) w := by
  have ha : a.map (·.add 0) = a := by
    cases a with
    | none => rfl
    | some b => cases b; simp [Addr.add]
  simp only [execOp, hx, iN] at hy ⊢
  simp [Instr.sliceAt, Instr.slice, Instr.sliceBounds, Instr.sliceBound, run_underlying Try.underlying26, Try.sizeOf3, hy, asIntOf, hm, ha]
end
section
variable {ops : Array Oper} {Q : Exit → Act → World → Prop} {a : Act} {rest : List Oper} {w : World} {z : Base} {Lr L : BL} {dst : Option Tmp} {ty : TypeId} {pos : String} {aft : Array Edge} {gd : Option (Nat × Bool)}
theorem wl_appO {n m c : Nat} {v : Value} {xs news : List Value} {o : Option Addr} {x y : Operand} (hR : Row 3 1 v n xs Lr) (H : HA z (Lr ++ L) w) (hs : m = 0 ∨ ∃ a, o = some a ∧ ∀ j u, news[j]? = some u → w.cell? (a.add j) = some u) (hl : news.length = m * 1) (h1 : ∀ u ∈ news, u.oneCell' = true)
    (hw : Region.wanted ⟨dst, .call { callee := .builtin .append, args := #[x, y], argTypes := #[26, 26] }, ty, pos, aft, gd⟩ (yielded ops a.tmps) = true)
    (hx : a.eval x = v) (hy : a.eval y = .slice o m c) (h63 : n + m ≤ 1000000)
    (h : ∀ v' w' Lr', Row 3 1 v' (n + m) (xs ++ news) Lr' → HA z (Lr' ++ L) w' → WL Try.prog ops Q rest (a.put dst v') w') :
    WL Try.prog ops Q (⟨dst, .call { callee := .builtin .append, args := #[x, y], argTypes := #[26, 26] }, ty, pos, aft, gd⟩ :: rest) a w := by
  by_cases hm : m = 0
  · subst hm
    have hn : news = [] := List.eq_nil_of_length_eq_zero (by omega)
    subst hn
    obtain ⟨p, c1, hv, hc⟩ := hR.cap
    rw [hv] at hx
    have := h v w Lr (by simpa using hR) H
    rw [hv] at this
    exact wl_val _ hw (run_app0Z hx hy hc) this
  · obtain ⟨ad, rfl, hcell⟩ := hs.resolve_left hm
    obtain ⟨i, hi, hh⟩ := Option.map_eq_some_iff.1 info3
    simp only [Prod.mk.injEq] at hh
    obtain ⟨v', w', Lr', hrun, hR', H'⟩ := hR.append H (by decide) 26 ty i _ 8 Try.underlying26 hi hh.1 hh.2.1 hh.2.2 rfl (by decide) ad m c news hl hcell h1 (by unfold maxLen; omega) (by omega) (by omega)
    refine wl_any hw ?_ (h v' w' Lr' hR' H')
    unfold execOp
    simp only [resolve, invoke, builtin, Sem.run_bind, Sem.run_pure, Result.andThen_ok, List.map_toArray, List.map_cons, List.map_nil, hx, hy, hrun]
end
theorem perm_ref (B RL TT N : BL) : (B ++ ((RL ++ TT) ++ N)).Perm (B ++ ((N ++ RL) ++ TT)) := by
  refine List.Perm.append_left _ (List.perm_append_comm.trans ?_)
  rw [List.append_assoc]
theorem RD.form {v : Value} {D : DS} {rm : Nat} {N : BL} (h : RD v D rm N) : ∃ pf nf cf dn lf pz nz cz, v = .agg #[iN .i64 rm, .slice pf nf cf, .bool dn, iN .i64 lf, .slice pz nz cz] := by
  obtain ⟨fs, dn, lf, zs, pf, cf, pz, cz, h1, _⟩ := h
  exact ⟨_, _, _, _, _, _, _, _, h1⟩
theorem wh_cases (z : Int) : z = 0 ∨ z = 1 ∨ z = 2 ∨ z = 3 ∨ z = 4 ∨ z = 5 ∨ z = 6 ∨ (z ≠ 0 ∧ z ≠ 1 ∧ z ≠ 2 ∧ z ≠ 3 ∧ z ≠ 4 ∧ z ≠ 5 ∧ z ≠ 6) := by omega
theorem DH.syn {w0 : World} {M : ML} {d : Dk} {D : DS} {L : BL} {w : World} (h : DH w0 M d D L w) : ∀ x ∈ D.fs, x.sy ≤ x.da.length := fun x hx => by
  obtain ⟨fl, nx, v, Lr, h1, h2, _⟩ := h
  rw [← h1] at hx
  obtain ⟨f, hf, rfl⟩ := List.mem_map.1 hx
  exact h2.syn f hf
theorem take_cell {ks : List Int} {w : World} {o : Option Addr} (h : IntB w o ks) (m : Nat) (hm : m ≤ ks.length) : m = 0 ∨ ∃ a, o = some a ∧ ∀ j u, ((ks.take m).map (Value.int .i64))[j]? = some u → w.cell? (a.add j) = some u := by
  rcases Nat.eq_zero_or_pos m with h0 | h0
  · exact .inl h0
  · obtain ⟨a, ha, _⟩ := h 0 (by omega)
    refine .inr ⟨a, ha, fun j u hu => ?_⟩
    rw [List.getElem?_map, List.getElem?_take] at hu
    split at hu
    · rename_i hj
      obtain ⟨b, hb, h2⟩ := h j (by omega)
      rw [ha] at hb
      cases hb
      rw [h2]
      rw [List.getD_eq_getElem?_getD]
      cases hk : ks[j]? with
      | none => rw [hk] at hu; cases hu
      | some z => rw [hk] at hu; simpa using hu
    · cases hu
theorem take_getD (ks : List Int) (m j : Nat) (hj : j < m) : (ks.take m).getD j 0 = ks.getD j 0 := by
  rw [List.getD_eq_getElem?_getD, List.getD_eq_getElem?_getD, List.getElem?_take, if_pos hj]
theorem take_src {ks : List Int} {w : World} {o : Option Addr} (h : IntB w o ks) (m : Nat) (hm : m ≤ ks.length) : ks.take m = [] ∨ ∃ b, o = some b ∧ ∀ j, j < (ks.take m).length → w.cell? (b.add j) = some (.int .i64 ((ks.take m).getD j 0)) := by
  rcases Nat.eq_zero_or_pos m with h0 | h0
  · exact .inl (by rw [h0, List.take_zero])
  · obtain ⟨a, ha, _⟩ := h 0 (by omega)
    refine .inr ⟨a, ha, fun j hj => ?_⟩
    rw [List.length_take] at hj
    obtain ⟨b, hb, h2⟩ := h j (by omega)
    rw [ha] at hb
    cases hb
    rw [h2, take_getD _ _ _ (by omega)]
theorem KV.row {w0 : World} {L Lr : BL} {v : Value} {ks : List Int} {n : Nat} (hn : n = ks.length) (hs : Lr ⊆ L) (h : Row 3 1 v n (ks.map (Value.int .i64)) Lr) : ∃ o c, v = .slice o ks.length c ∧ KV w0 L o ks := by
  subst hn
  rcases h.2 with ⟨rfl, h2, rfl⟩ | ⟨g, cap, cur, rfl, rfl, k1, k2, k3, k4⟩
  · have : ks = [] := List.length_eq_zero_iff.1 h2
    subst this
    exact ⟨none, 0, rfl, .inl rfl⟩
  · refine ⟨_, cap, rfl, KV.own (b := g) (cu := cur) (hs (by simp)) fun j hj => ?_⟩
    rw [Nat.mul_one] at k4
    have e : (cur.toList.take ks.length)[j]? = (ks.map (Value.int .i64))[j]? := by rw [k4]
    rw [List.getElem?_take, if_pos hj, List.getElem?_map, List.getElem?_eq_getElem hj, Array.getElem?_toList] at e
    rw [e]
    simp [hj]
theorem IntB.keep {w w' : World} {o : Option Addr} {ks : List Int} (h : IntB w o ks) (hb : Below w.heap.size w w') : IntB w' o ks := fun i hi => by
  obtain ⟨a, h1, h2⟩ := h i hi
  exact ⟨a, h1, cell_old hb h2⟩
theorem New_rm {rm : Nat} {z : Int} (hrm : rm = z.toNat) {w0 : World} {M : ML} {L : BL} {w : World} (H0 : HA ⟨w0, M⟩ L w) : Calls Try.prog 7 #[.int .i64 z] w fun e w' => ∃ d, e = .returned (pt d.q) ∧ DH w0 M d ⟨[], rm, 0, false, []⟩ L w' := by
  subst hrm
  exact New_any z H0
theorem perm_lk (B N X K : BL) : (K ++ (B ++ (N ++ X))).Perm (B ++ ((K ++ N) ++ X)) := by
  rw [List.append_assoc K N X, ← List.append_assoc, ← List.append_assoc B K]
  exact List.perm_append_comm.append_right _
theorem run_addro {ρ : Operand → Value} {x y : Operand} {w : World} {dst : Option Tmp} {ty : TypeId} {pos : String} {aft : Array Edge} {gd : Option (Nat × Bool)} {o : Option Addr} {a : Addr} {n m i : Nat} (ho : o = some a) (hx : ρ x = .slice o n m) (hy : ρ y = iN .i64 i) (hi : i < n) : (execOp ρ ⟨dst, .indexAddr 22 x y, ty, pos, aft, gd⟩).run Try.prog w = .ok (.value (.pointer (some (a.add (i * 5))))) w := by
  subst ho
  exact run_addrg Try.underlying22 (fun w => Try.sizeOf31 w) hx hy hi
end Go.Proofs.Ytjedhnjjgmbcbaa
