/-
  strings.Builder: what lies in memory.
-/
import Derived.Test.YtckmlaempffpjaaGreatGF
import Derived.Lib.Builder
import Derived.Lib.UnsafeStr
namespace Go.Proofs.YtckmlaempffpjaaGreat
open Go.RowKit

theorem sizeB : (Tryz.prog.info? 147).map (·.size) = some 2 := by kernel_rfl
theorem liesB : liesAt Tryz.prog Tryz.prog.depth 147 (2 / Tryz.prog.cellsOf 147) 0 147 1 = true := by kernel_rfl
theorem cellsB : Tryz.prog.cellsOf 5 = 1 := by kernel_rfl
set_option maxHeartbeats 1000000 in
set_option maxRecDepth 100000 in
theorem check_used (b : Nat) (w : World) (h0 : w.cell? ⟨b, 0, none⟩ = some (.pointer (some ⟨b, 0, none⟩))) :
    Calls Tryz.prog 133 #[.pointer (some ⟨b, 0, none⟩)] w fun e w' => e = .returned (.tuple #[]) ∧ w' = w := by
  obtain ⟨j, hj, _⟩ := Option.map_eq_some_iff.1 sizeB
  go_enter Tryz.func133, Tryz.ntmps133
  go_wp2
  rw [Lib.run_neq_ptr_same w _ Tryz.underlying145 hj]
  go_wp2
  go_end0
  exact ⟨rfl, rfl⟩
set_option maxHeartbeats 1000000 in
set_option maxRecDepth 100000 in
theorem check_fresh (b : Nat) (w : World) (h0 : w.cell? ⟨b, 0, none⟩ = some (.pointer none)) (hsh : w.shape? b = some (147, 2)) (hfz : w.frozen? ⟨b, 0, none⟩ = false) :
    Calls Tryz.prog 133 #[.pointer (some ⟨b, 0, none⟩)] w fun e w' => e = .returned (.tuple #[]) ∧ w' = w.setCell ⟨b, 0, none⟩ (.pointer (some ⟨b, 0, none⟩)) := by
  obtain ⟨j, hj, hjs⟩ := Option.map_eq_some_iff.1 sizeB
  go_enter Tryz.func133, Tryz.ntmps133
  go_wp2
  rw [Lib.run_to_unsafe w ⟨b, 0, none⟩ Tryz.underlying145 Tryz.underlying195 hj (by rw [hjs]; decide) hsh (Nat.zero_lt_succ 1)]
  simp only [Result.andThen]
  rw [Oper.upon_value]
  go_wp2
  rw [run_callFunc_extern Tryz.func149 (by kernel_rfl) (by kernel_rfl) (by kernel_rfl) (e := Extern.AbiNoEscape.same) (by kernel_rfl)]
  rw [Lib.run_noEscape]
  simp only [Result.andThen]
  rw [Oper.upon_value]
  go_wp2
  rw [Lib.run_from_unsafe w ⟨b, 0, none⟩ Tryz.underlying195 Tryz.underlying145 hj hsh liesB]
  simp only [Result.andThen]
  rw [Oper.upon_value]
  go_wp2
  go_end0
  exact ⟨rfl, rfl⟩
theorem Blk.shape {w : World} {q : Nat} {t : TypeId} {c : Array Value} (h : Blk w q t c) : w.shape? q = some (t, c.size) := by
  obtain ⟨f, hf, _⟩ := h
  simp [World.shape?, hf]
/-- a builder, fresh or used -/
def BuP (b : Nat) (p : Value) : Prop := p = .pointer none ∨ p = pt b
theorem check_any {z : Base} {L : BL} {w : World} {b : Nat} {p v : Value} (hp : BuP b p) (H : HA z ((b, 147, #[p, v]) :: L) w) :
    Calls Tryz.prog 133 #[pt b] w fun e w' => e = .returned (.tuple #[]) ∧ HA z ((b, 147, #[pt b, v]) :: L) w' := by
  have hB : Blk w b 147 #[p, v] := H.get 0 rfl
  rcases hp with rfl | rfl
  · refine (check_fresh b w ((hB.cell 0).trans rfl) hB.shape (hB.free 0 (by simp))).mono ?_
    rintro e w' ⟨rfl, rfl⟩
    exact ⟨rfl, H.put 0 rfl 0 (.pointer (some ⟨b, 0, none⟩))⟩
  · refine (check_used b w ((hB.cell 0).trans rfl)).mono ?_
    rintro e w' ⟨rfl, rfl⟩
    exact ⟨rfl, H⟩
section
variable {ρ : Operand → Value} {x y : Operand} {w : World} {dst : Option Tmp} {ty : TypeId} {pos : String} {aft : Array Edge} {gd : Option (Nat × Bool)}
theorem run_sdata {a : Addr} {n c : Nat} (hx : ρ x = .slice (some a) n c) (hc : c ≠ 0) : (execOp ρ ⟨dst, .call { callee := .builtin .unsafeSliceData, args := #[x], argTypes := #[62] }, ty, pos, aft, gd⟩).run Tryz.prog w = .ok (.value (.pointer (some a))) w := by
  unfold execOp
  simp only [resolve, invoke, builtin, Sem.run_bind, Sem.run_pure, Result.andThen_ok, List.map_toArray, List.map_cons, List.map_nil, hx, Lib.run_unsafeSliceData_row w #[62] ty a n c hc]
theorem run_sdata0 (hx : ρ x = .slice none 0 0) : (execOp ρ ⟨dst, .call { callee := .builtin .unsafeSliceData, args := #[x], argTypes := #[62] }, ty, pos, aft, gd⟩).run Tryz.prog w = .ok (.value (.pointer none)) w := by
  unfold execOp
  simp only [resolve, invoke, builtin, Sem.run_bind, Sem.run_pure, Result.andThen_ok, List.map_toArray, List.map_cons, List.map_nil, hx, Lib.run_unsafeSliceData_nil]
theorem run_ustr0 (hx : ρ x = .pointer none) (hy : ρ y = iN .i64 0) : (execOp ρ ⟨dst, .call { callee := .builtin .unsafeString, args := #[x, y], argTypes := #[180, 3] }, ty, pos, aft, gd⟩).run Tryz.prog w = .ok (.value (.string { data := #[] })) w := by
  unfold execOp
  simp only [resolve, invoke, builtin, Sem.run_bind, Sem.run_pure, Result.andThen_ok, List.map_toArray, List.map_cons, List.map_nil, hx, hy, iN]
  have := Lib.run_unsafeString_none (P := Tryz.prog) w 180 3 ty none
  rw [show ((0 : Nat) : Int) = 0 from rfl, this]
  rfl
theorem run_ustr {g cap : Nat} {cur l : List UInt8} (hB : Blk w g 5 (bc cur)) (h3 : cur.length = cap) (h1 : l.length ≤ cap) (h4 : cur.take l.length = l) (h0 : l ≠ []) (hl : l.length ≤ 9223372036854775807) (hx : ρ x = .pointer (some ⟨g, 0, none⟩)) (hy : ρ y = iN .i64 l.length) : (execOp ρ ⟨dst, .call { callee := .builtin .unsafeString, args := #[x, y], argTypes := #[180, 3] }, ty, pos, aft, gd⟩).run Tryz.prog w = .ok (.value (.string ⟨l.toArray⟩)) (w.freeze ⟨g, 0, none⟩ l.length) := by
  have := Lib.run_unsafeString_row (P := Tryz.prog) w 180 3 ty 5 Tryz.underlying180 cellsB g cap (by rw [hB.shape, bc_size, h3]) l h0 h1 hl (fun j u hu => by
    have hadd : (⟨g, 0, none⟩ : Addr).add j = ⟨g, j, none⟩ := by unfold Addr.add; split <;> simp_all
    rw [hadd, hB.cell j]
    have hj : j < l.length := (List.getElem?_eq_some_iff.1 hu).1
    have e : (cur.take l.length)[j]? = l[j]? := by rw [h4]
    rw [List.getElem?_take_of_lt hj] at e
    simp only [bc, List.getElem?_toArray, List.getElem?_map, e, hu]
    rfl)
  unfold execOp
  simp only [resolve, invoke, builtin, Sem.run_bind, Sem.run_pure, Result.andThen_ok, List.map_toArray, List.map_cons, List.map_nil, hx, hy, iN, this]
end
/-- what is held beside bytes that are a text from now on -/
theorem HA.frz {z : Base} {L : BL} {w : World} {g t : Nat} {c : Array Value} (H : HA z L w) (hg : (g, t, c) ∈ L) (n : Nat) : HA z [] (w.freeze ⟨g, 0, none⟩ n) := by
  have hb := H.blk _ hg
  have ho : z.w.heap.size ≤ g := H.own _ hg
  refine ⟨⟨Lib.below_freeze (p := ⟨g, 0, none⟩) H.old.old ho n, fun m hm => ?_, H.old.mown, H.old.mnd⟩, fun _ hx => (by cases hx), fun _ hx => (by cases hx), List.nodup_nil⟩
  have hmm := H.old.maps m hm
  have hne : m.1 ≠ g := fun e => by
    obtain ⟨f, hf, _⟩ := hb
    rw [e] at hmm
    exact MO.nc m.2 _ _ _ (Option.some.inj (hmm.symm.trans hf))
  unfold World.freeze
  split
  · exact hmm
  · simp only [Array.getElem?_modify]
    rw [if_neg (Ne.symm hne)]
    exact hmm
end Go.Proofs.YtckmlaempffpjaaGreat
