/-
  What join leans on: rows of numbers, parts one by one.
-/
import Derived.Test.YtoogiblkommdfaaGreatT6
namespace Go.Proofs.YtoogiblkommdfaaGreat
open Go.RowKit

def strc (ss : List ByteArray) : Array Value := (ss.map Value.string).toArray
theorem strc_get (ss : List ByteArray) (i : Nat) (h : i < ss.length) : (strc ss)[i]? = some (.string (ss.getD i ByteArray.empty)) := by simp [strc, h]
/-- the first cells are these texts -/
def PreS (cs : Array Value) (ss : List ByteArray) : Prop := ∀ i, i < ss.length → cs[i]? = some (.string (ss.getD i ByteArray.empty))
theorem PreS.strc (ss : List ByteArray) : PreS (strc ss) ss := fun i h => strc_get ss i h
theorem intc_put (l : List Nat) (i u : Nat) : (intc l).setIfInBounds i (iN .i64 u) = intc (l.set i u) := by simp [intc]
theorem made_ic (c : Nat) : madeCells #[.int .i64 0] c = intc (List.replicate c 0) := by
  have h : madeCells #[.int .i64 0] c = (List.replicate c (Value.int .i64 0)).toArray := by
    apply Array.ext
    · simp [size_madeCells]
    · intro i h1 h2
      simp [madeCells, Nat.mod_one]
  rw [h, intc, List.map_replicate]
  rfl
theorem info3 : (Tryz.prog.info? 3).map (fun i => (i.zero, i.size, i.bytes)) = some (some (.int .i64 0), 1, 8) := by kernel_rfl
section
variable {ρ : Operand → Value} {x y : Operand} {w : World} {dst : Option Tmp} {ty : TypeId} {pos : String} {aft : Array Edge} {gd : Option (Nat × Bool)}
theorem run_mk29 {k : IntKind} {m c : Nat} (hx : ρ x = iN .i64 m) (hy : ρ y = iN k c) (hmc : m ≤ c) (hc : c ≤ 2000000) : (execOp ρ ⟨dst, .makeSlice 84 x y, ty, pos, aft, gd⟩).run Tryz.prog w = .ok (.value (.slice (some ⟨w.heap.size, 0, none⟩) m c)) (w.alloc (.cells (intc (List.replicate c 0)) 3)) := by
  obtain ⟨i, hi, h⟩ := Option.map_eq_some_iff.1 info3
  simp only [Prod.mk.injEq] at h
  have e := run_makeSlice (P := Tryz.prog) w 84 3 i (.int .i64 0) Tryz.underlying84 hi h.1 .i64 k (m : Int) (c : Int) (by omega) (by omega) (by rw [h.2.1]; omega) (by rw [h.2.2]; omega) (by omega)
  rw [h.2.1] at e
  simp only [Int.toNat_natCast, Nat.mul_one] at e
  simp only [execOp, hx, hy, iN, Sem.run_bind, e, Result.andThen_ok, Sem.run_pure]
  rw [show (Value.int IntKind.i64 0).cells = #[Value.int IntKind.i64 0] from rfl, made_ic]
theorem run_appI {q r m c u : Nat} {l : List Nat} (hx : ρ x = .slice (some ⟨q, 0, none⟩) m c) (hy : ρ y = .slice (some ⟨r, 0, none⟩) 1 1) (hq : Blk w q 3 (intc l)) (hr : Blk w r 3 (intc [u])) (hroom : m + 1 ≤ c) (hl : l.length = c) :
    (execOp ρ ⟨dst, .call { callee := .builtin .append, args := #[x, y], argTypes := #[84, 84] }, ty, pos, aft, gd⟩).run Tryz.prog w = .ok (.value (.slice (some ⟨q, 0, none⟩) (m + 1) c)) (w.setCell ⟨q, m, none⟩ (iN .i64 u)) := by
  obtain ⟨i, hi, h⟩ := Option.map_eq_some_iff.1 info3
  simp only [Prod.mk.injEq] at h
  have hf := run_firstCells_some (P := Tryz.prog) w 1 1 ⟨r, 0, none⟩ 1 1 [iN .i64 u] rfl (fun k v hv => by
    have hadd : (⟨r, 0, none⟩ : Addr).add k = ⟨r, k, none⟩ := by unfold Addr.add; split <;> simp_all
    rw [hadd, hr.cell k]
    simpa [intc] using hv)
  have hst := run_storeCells_cells (P := Tryz.prog) q m [iN .i64 u] 0 w (fun k hk => by
    rw [hq.cell]
    simp at hk
    simp [intc_size]
    omega) (fun k hk => by
    simp at hk
    exact hq.free _ (by rw [intc_size]; omega)) (fun v hv => by
    rw [List.mem_singleton] at hv
    rw [hv]; rfl)
  simp only [Nat.add_zero] at hst
  have e : (Builtin.append_ #[84, 84] ty #[.slice (some ⟨q, 0, none⟩) m c, .slice (some ⟨r, 0, none⟩) 1 1]).run Tryz.prog w = .ok (.slice (some ⟨q, 0, none⟩) (m + 1) c) (w.setCells q m [iN .i64 u]) := by
    simp [Builtin.append_, run_underlying Tryz.underlying84, sizeOf, typeInfo, hi, h.2.1, Builtin.lenOf, hroom, hf, Addr.add_lit, hst]
  have e0 : (execOp ρ ⟨dst, .call { callee := .builtin .append, args := #[x, y], argTypes := #[84, 84] }, ty, pos, aft, gd⟩).run Tryz.prog w = ((Builtin.append_ #[84, 84] ty #[ρ x, ρ y]).run Tryz.prog w).andThen (fun a w' => .ok (.value a) w') := by simp [go_sem]
  rw [e0, hx, hy, e]
  rfl
end
theorem pad_set (ns : List Nat) (k n u : Nat) (hk : ns.length = k) (hn : k < n) : (ns ++ List.replicate (n - k) 0).set k u = (ns ++ [u]) ++ List.replicate (n - (k + 1)) 0 := by
  subst hk
  obtain ⟨m, rfl⟩ : ∃ m, n = ns.length + 1 + m := ⟨n - ns.length - 1, by omega⟩
  rw [show ns.length + 1 + m - ns.length = m + 1 by omega, show ns.length + 1 + m - (ns.length + 1) = m by omega, List.replicate_succ, List.set_append_right _ _ (Nat.le_refl _), Nat.sub_self]
  simp
/-! parts, one by one -/
def pfE (es : List Ent) (ss : List ByteArray) : Nat → List Ent
  | 0 => es
  | k + 1 => (partF (pfE es ss k) (ss.getD k ByteArray.empty)).1
def pfN (es : List Ent) (ss : List ByteArray) : Nat → List Nat
  | 0 => []
  | k + 1 => pfN es ss k ++ [(partF (pfE es ss k) (ss.getD k ByteArray.empty)).2]
theorem pfN_len (es : List Ent) (ss : List ByteArray) : ∀ k, (pfN es ss k).length = k
  | 0 => rfl
  | k + 1 => by simp [pfN, pfN_len es ss k]
theorem pfE_len (es : List Ent) (ss : List ByteArray) : ∀ k, (pfE es ss k).length ≤ es.length + k
  | 0 => Nat.le_refl _
  | k + 1 => by
    have h1 := pfE_len es ss k
    have h2 := partF_len (pfE es ss k) (ss.getD k ByteArray.empty)
    simp only [pfE]
    omega
theorem partF_mono (es : List Ent) (s : ByteArray) : es.length ≤ (partF es s).1.length := by
  unfold partF
  split
  · simp
  · split <;> simp
theorem pfN_lt (es : List Ent) (ss : List ByteArray) : ∀ k, ∀ x ∈ pfN es ss k, x < (pfE es ss k).length
  | 0, x, hx => by cases hx
  | k + 1, x, hx => by
    have h1 := partF_mono (pfE es ss k) (ss.getD k ByteArray.empty)
    have h2 := partF_ok (pfE es ss k) (ss.getD k ByteArray.empty)
    simp only [pfN, pfE, List.mem_append, List.mem_singleton] at hx ⊢
    rcases hx with hx | rfl
    · have := pfN_lt es ss k x hx; omega
    · exact h2
theorem getD_lt {l : List Nat} {m : Nat} (h : ∀ x ∈ l, x < m) (hm : 0 < m) (i : Nat) : l.getD i 0 < m := by
  rw [List.getD_eq_getElem?_getD]
  cases hi : l[i]? with
  | none => simpa using hm
  | some x => simpa using h x (List.mem_of_getElem? hi)
theorem Wf.app {es : List Ent} (h : Wf es) (e : Ent) (hl : es.length < 60000) (h1 : ∀ k n s ps b, e = .mk k n s ps b → (∀ j, ps.getD j 0 < 60000) ∧ ps.length ≤ 100 ∧ (k = 3 → ps.length = 1)) : Wf (es ++ [e]) := by
  have key : ∀ (i : Nat) x, (es ++ [e])[i]? = some x → es[i]? = some x ∨ x = e := fun i x hx => by
    rcases Nat.lt_or_ge i es.length with hi | hi
    · rw [List.getElem?_append_left hi] at hx; exact .inl hx
    · rw [List.getElem?_append_right hi] at hx
      cases hj : i - es.length with
      | zero => rw [hj] at hx; exact .inr (Option.some.inj hx).symm
      | succ j => rw [hj] at hx; cases hx
  refine ⟨by rw [List.length_append]; simp; omega, fun i k n s ps b hi j => ?_, fun i n s ps b hi => ?_, fun i k n s ps b hi => ?_⟩
  · rcases key i _ hi with h' | h'
    · exact h.lt i k n s ps b h' j
    · exact (h1 k n s ps b h'.symm).1 j
  · rcases key i _ hi with h' | h'
    · exact h.one i n s ps b h'
    · exact (h1 3 n s ps b h'.symm).2.2 rfl
  · rcases key i _ hi with h' | h'
    · exact h.len i k n s ps b h'
    · exact (h1 k n s ps b h'.symm).2.1
theorem Wf.part {es : List Ent} (h : Wf es) (s : ByteArray) (hl : es.length < 60000) : Wf (partF es s).1 := by
  unfold partF
  split
  · exact h
  · split
    · exact h
    · exact h.app _ hl (fun _ _ _ _ _ h => by cases h)
theorem Wf.parts {es : List Ent} (h : Wf es) (ss : List ByteArray) : ∀ k, es.length + k ≤ 60000 → Wf (pfE es ss k)
  | 0, _ => h
  | k + 1, hk => (h.parts ss k (by omega)).part _ (by have := pfE_len es ss k; omega)
/-! where blocks lie -/
section
variable {w0 w : World} {M : ML} {t : Tb} {es : List Ent} {L : BL} {x : Nat × TypeId × Array Value}
theorem TH.blk (H : TH w0 M t es L w) (hm : x ∈ L) : Blk w x.1 x.2.1 x.2.2 := by
  obtain ⟨v, Lr, hR, H⟩ := H
  exact H.blk x (by simp [hm])
theorem perm_up (a b : Nat × TypeId × Array Value) (A B C : BL) : (a :: (A ++ (B ++ (b :: C)))).Perm (b :: (a :: (A ++ (B ++ C)))) := by
  have := List.perm_middle (a := b) (l₁ := a :: (A ++ B)) (l₂ := C)
  simpa using this
theorem TH.up (H : TH w0 M t es (x :: L) w) : ∃ v Lr, Row 150 1 v es.length (es.map ev) Lr ∧ HA (zb w0 M t es) (x :: ((t.q, 145, tcell t (nms es) v) :: (Lr ++ (PB es ++ L)))) w := by
  obtain ⟨v, Lr, hR, H⟩ := H
  exact ⟨v, Lr, hR, H.perm (perm_up _ _ _ _ _)⟩
theorem TH.dn {v : Value} {Lr : BL} (hR : Row 150 1 v es.length (es.map ev) Lr) (H : HA (zb w0 M t es) (x :: ((t.q, 145, tcell t (nms es) v) :: (Lr ++ (PB es ++ L)))) w) : TH w0 M t es (x :: L) w :=
  ⟨v, Lr, hR, H.perm (perm_up _ _ _ _ _).symm⟩
theorem TH.sub {L' : BL} (H : TH w0 M t es L w) (h : L'.Sublist L) : TH w0 M t es L' w := by
  obtain ⟨v, Lr, hR, H⟩ := H
  exact ⟨v, Lr, hR, H.sub (List.Sublist.cons_cons _ (List.Sublist.append (List.Sublist.refl _) (List.Sublist.append (List.Sublist.refl _) h)))⟩
theorem TH.perm {L' : BL} (H : TH w0 M t es L w) (h : L.Perm L') : TH w0 M t es L' w := by
  obtain ⟨v, Lr, hR, H⟩ := H
  exact ⟨v, Lr, hR, H.perm (List.Perm.cons _ (List.Perm.append_left _ (List.Perm.append_left _ h)))⟩
theorem HA.forget {a b : Nat × Array MapEntry × Nat} (H : HA ⟨w0, a :: b :: M⟩ L w) : HA ⟨w0, M⟩ L w :=
  ⟨⟨H.old.old, fun m hm => H.old.maps m (List.mem_cons_of_mem _ (List.mem_cons_of_mem _ hm)), fun m hm => H.old.mown m (List.mem_cons_of_mem _ (List.mem_cons_of_mem _ hm)), by
    have := H.old.mnd
    rw [show (Base.mk w0 (a :: b :: M)).M = a :: b :: M from rfl, List.map_cons, List.map_cons, List.nodup_cons, List.nodup_cons] at this
    exact this.2.2⟩, H.blk, H.own, H.nd⟩
theorem TV.of {v : Value} {A Lr : BL} (hR : Row 150 1 v es.length (es.map ev) Lr) (H : HA (zb w0 M t es) (A ++ ((t.q, 145, tcell t (nms es) v) :: (Lr ++ (PB es ++ L)))) w) : TV w t es :=
  TH.view (w0 := w0) (M := M) (L := L) ⟨v, Lr, hR, H.sub (List.sublist_append_right _ _)⟩
end
end Go.Proofs.YtoogiblkommdfaaGreat
