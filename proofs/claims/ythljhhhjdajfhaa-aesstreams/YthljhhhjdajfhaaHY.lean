/-
  Appending where there is room.
-/
import Derived.Test.YthljhhhjdajfhaaHX
namespace Go.Proofs.Ythljhhhjdajfhaa
open Go.RowKit

/-- one block is turned -/
theorem HA.turn {w0 A B : World} {L : List (Nat × TypeId × Array Value)} {q : Nat} {t : TypeId} {c c' : Array Value} (h : HA w0 L A) (i : Nat) (hi : L[i]? = some (q, t, c)) (hg : A.grownBy B (some q)) (hb : Blk B q t c') : HA w0 (L.set i (q, t, c')) B := by
  have hlt : i < L.length := (List.getElem?_eq_some_iff.1 hi).1
  have hmap : (L.set i (q, t, c')).map (·.1) = L.map (·.1) := by
    rw [List.map_set]
    refine List.ext_getElem? fun m => ?_
    by_cases hm : i = m
    · subst hm
      rw [List.getElem?_set_self (by simpa using hlt), List.getElem?_map, hi]
      rfl
    · rw [List.getElem?_set_ne hm]
  have hq := h.own _ (List.mem_of_getElem? hi)
  refine ⟨h.old.grown hg h.old.size (fun k hk => by cases hk; exact hq), fun x hx => ?_, fun x hx => ?_, by rw [hmap]; exact h.nd⟩
  · obtain ⟨m, hm⟩ := List.mem_iff_getElem?.1 hx
    by_cases him : i = m
    · subst him
      rw [List.getElem?_set_self hlt] at hm
      obtain rfl := Option.some.inj hm
      exact hb
    · rw [List.getElem?_set_ne him] at hm
      have hx1 := h.get m hm
      unfold Blk
      rw [hg.block x.1 hx1.lt (fun e => him ?_)]
      · exact hx1
      · have h1 : (L.map (·.1))[i]? = some q := by rw [List.getElem?_map, hi]; rfl
        have h2 : (L.map (·.1))[m]? = some q := by rw [List.getElem?_map, hm]; exact e
        exact (List.getElem?_inj (by simpa using hlt) h.nd).1 (h1.trans h2.symm)
  · have : x.1 ∈ L.map (·.1) := by rw [← hmap]; exact List.mem_map.2 ⟨x, hx, rfl⟩
    obtain ⟨y, hy, e⟩ := List.mem_map.1 this
    rw [← e]
    exact h.own y hy
theorem grown_sets {w : World} {q o : Nat} {vs : List Value} : w.grownBy (w.setCells q o vs) (some q) := by
  have key : ∀ (vs : List Value) (o : Nat) (w2 : World), w.grownBy w2 (some q) → w.grownBy (w2.setCells q o vs) (some q) := by
    intro vs
    induction vs with
    | nil => intro o w2 h; exact h
    | cons v r ih =>
      intro o w2 h
      refine ih (o + 1) _ ⟨h.os, h.tape, h.output, by simpa using h.size, fun k hk hne => ?_⟩
      rw [Below.heap_setCell w2 ⟨q, o, none⟩ v k (fun e => hne (by rw [e]))]
      exact h.block k hk hne
  exact key vs o w ⟨rfl, rfl, rfl, Nat.le_refl _, fun _ _ _ => rfl⟩

theorem HA.part {w0 w : World} {L : List (Nat × TypeId × Array Value)} {q o : Nat} {t : TypeId} {c : Array Value} {vs : List Value} (h : HA w0 L w) (i : Nat) (hi : L[i]? = some (q, t, c)) (ho : o + vs.length ≤ c.size) :
    HA w0 (L.set i (q, t, (c.toList.take o ++ vs ++ c.toList.drop (o + vs.length)).toArray)) (w.setCells q o vs) := h.turn i hi grown_sets (Blk.sets vs o w c (h.get i hi) ho)
/-- m bytes stand, then come others -/
def laidOn (l : List UInt8) (m : Nat) (r : List UInt8) : List UInt8 := l.take m ++ r ++ l.drop (m + r.length)
theorem laidOn_len (l : List UInt8) (m : Nat) (r : List UInt8) (h : m + r.length ≤ l.length) : (laidOn l m r).length = l.length := by
  unfold laidOn
  rw [List.length_append, List.length_append, List.length_take, List.length_drop]
  omega
theorem laidOn_take (l : List UInt8) (m : Nat) (r : List UInt8) (h : m + r.length ≤ l.length) : (laidOn l m r).take (m + r.length) = l.take m ++ r := by
  unfold laidOn
  have e : (l.take m ++ r).length = m + r.length := by rw [List.length_append, List.length_take]; omega
  rw [← e, List.take_left]
theorem laid_bc (l : List UInt8) (m : Nat) (r : List UInt8) : ((bc l).toList.take m ++ (r.map by8) ++ (bc l).toList.drop (m + (r.map by8).length)).toArray = bc (laidOn l m r) := by
  unfold bc laidOn
  simp [List.map_take, List.map_drop]
section
variable {ρ : Operand → Value} {x y : Operand} {w : World} {dst : Option Tmp} {T T2 ty : TypeId} {pos : String} {aft : Array Edge} {gd : Option (Nat × Bool)}
theorem run_app {q r m c j c2 : Nat} {l n : List UInt8} (hx : ρ x = .slice (some ⟨q, 0, none⟩) m c) (hy : ρ y = .slice (some ⟨r, 0, none⟩) j c2) (hq : Blk w q 5 (bc l)) (hr : Blk w r 5 (bc n)) (hj : n.length = j) (hroom : m + j ≤ c) (hl : l.length = c) :
    (execOp ρ ⟨dst, .call { callee := .builtin .append, args := #[x, y], argTypes := #[31, 31] }, ty, pos, aft, gd⟩).run Try.prog w = .ok (.value (.slice (some ⟨q, 0, none⟩) (m + j) c)) (w.setCells q m (n.map by8)) := by
  obtain ⟨i, hi, h⟩ := Option.map_eq_some_iff.1 info5
  simp only [Prod.mk.injEq] at h
  have hf := run_firstCells_some (P := Try.prog) w 1 j ⟨r, 0, none⟩ j c2 (n.map by8) (by rw [List.length_map, hj, Nat.mul_one]) (fun k v hv => by
    have hadd : (⟨r, 0, none⟩ : Addr).add k = ⟨r, k, none⟩ := by unfold Addr.add; split <;> simp_all
    rw [hadd, hr.cell k]
    simpa [bc] using hv)
  have hst := run_storeCells_cells (P := Try.prog) q m (n.map by8) 0 w (fun k hk => by
    rw [hq.cell]
    rw [List.length_map] at hk
    simp [bc_size]
    omega) (fun k hk => by
    rw [List.length_map] at hk
    exact hq.free _ (by rw [bc_size]; omega)) (fun v hv => by
    obtain ⟨u, _, rfl⟩ := List.mem_map.1 hv
    rfl)
  simp only [Nat.add_zero] at hst
  have e : (Builtin.append_ #[31, 31] ty #[.slice (some ⟨q, 0, none⟩) m c, .slice (some ⟨r, 0, none⟩) j c2]).run Try.prog w = .ok (.slice (some ⟨q, 0, none⟩) (m + j) c) (w.setCells q m (n.map by8)) := by
    simp [Builtin.append_, run_underlying Try.underlying31, sizeOf, typeInfo, hi, h.2.1, Builtin.lenOf, hroom, hf, Addr.add_lit, hst]
  have e0 : (execOp ρ ⟨dst, .call { callee := .builtin .append, args := #[x, y], argTypes := #[31, 31] }, ty, pos, aft, gd⟩).run Try.prog w = ((Builtin.append_ #[31, 31] ty #[ρ x, ρ y]).run Try.prog w).andThen (fun a w' => .ok (.value a) w') := by simp [go_sem]
  rw [e0, hx, hy, e]
  rfl
theorem run_apps {q m c : Nat} {l : List UInt8} {s : ByteArray} (hx : ρ x = .slice (some ⟨q, 0, none⟩) m c) (hy : ρ y = .string s) (hq : Blk w q 5 (bc l)) (hroom : m + s.size ≤ c) (hl : l.length = c) :
    (execOp ρ ⟨dst, .call { callee := .builtin .append, args := #[x, y], argTypes := #[31, 9] }, ty, pos, aft, gd⟩).run Try.prog w = .ok (.value (.slice (some ⟨q, 0, none⟩) (m + s.size) c)) (w.setCells q m ((bl s).map by8)) := by
  obtain ⟨i, hi, h⟩ := Option.map_eq_some_iff.1 info5
  simp only [Prod.mk.injEq] at h
  have hf := Lib.run_firstCells_string (P := Try.prog) w 1 s
  have hst := run_storeCells_cells (P := Try.prog) q m ((bl s).map by8) 0 w (fun k hk => by
    rw [hq.cell]
    rw [List.length_map, bl_len] at hk
    simp [bc_size]
    omega) (fun k hk => by
    rw [List.length_map, bl_len] at hk
    exact hq.free _ (by rw [bc_size]; omega)) (fun v hv => by
    obtain ⟨u, _, rfl⟩ := List.mem_map.1 hv
    rfl)
  simp only [Nat.add_zero] at hst
  have e2 : Lib.strCells s = (bl s).map by8 := rfl
  rw [e2] at hf
  have e : (Builtin.append_ #[31, 9] ty #[.slice (some ⟨q, 0, none⟩) m c, .string s]).run Try.prog w = .ok (.slice (some ⟨q, 0, none⟩) (m + s.size) c) (w.setCells q m ((bl s).map by8)) := by
    simp [Builtin.append_, run_underlying Try.underlying31, run_underlying Try.underlying9, sizeOf, typeInfo, hi, h.2.1, Builtin.lenOf, hroom, hf, Addr.add_lit, hst]
  have e0 : (execOp ρ ⟨dst, .call { callee := .builtin .append, args := #[x, y], argTypes := #[31, 9] }, ty, pos, aft, gd⟩).run Try.prog w = ((Builtin.append_ #[31, 9] ty #[ρ x, ρ y]).run Try.prog w).andThen (fun a w' => .ok (.value a) w') := by simp [go_sem]
  rw [e0, hx, hy, e]
  rfl
theorem run_text {q m c : Nat} {l : List UInt8} (hx : ρ x = .slice (some ⟨q, 0, none⟩) m c) (h : Blk w q 5 (bc l)) (hm : m ≤ l.length) :
    (execOp ρ ⟨dst, .convert 31 9 x, ty, pos, aft, gd⟩).run Try.prog w = .ok (.value (.string ⟨(l.take m).toArray⟩)) w := by
  have e0 : (l.take m).length = m := by rw [List.length_take]; omega
  have e := run_convert_bytes_back (P := Try.prog) w 31 9 5 ⟨q, 0, none⟩ c (l.take m) Try.underlying31 Try.underlying5 Try.underlying9 (fun j hj => by
    have hadd : (⟨q, 0, none⟩ : Addr).add j = ⟨q, j, none⟩ := by unfold Addr.add; split <;> simp_all
    rw [e0] at hj
    rw [hadd, h.cell j, bc_get l j (by omega), List.getElem_take, List.getD_eq_getElem?_getD, List.getElem?_eq_getElem (by omega)]
    rfl)
  rw [e0] at e
  simp only [execOp, hx, Sem.run_bind, e, Result.andThen_ok, Sem.run_pure]
end
end Go.Proofs.Ythljhhhjdajfhaa
