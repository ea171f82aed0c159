/-
  A copy of a disk: bytes made anew; what is new beside what was.
-/
import Derived.Test.YtjedhnjjgmbcbaaDX
namespace Go.Proofs.Ytjedhnjjgmbcbaa
open Go.RowKit

section
variable {w : World} {da cur : List UInt8} {g g0 cap : Nat} {ty : TypeId}
theorem run_copyB0 : (Builtin.append_ #[52, 52] ty #[.slice (some ⟨g0, 0, none⟩) 0 0, .slice (some ⟨g, 0, none⟩) 0 cap]).run Try.prog w = .ok (.slice (some ⟨g0, 0, none⟩) 0 0) w := by
  obtain ⟨i, hi, hz, h1, h8⟩ := info5'
  have := run_append_room_cells (P := Try.prog) w 52 ty 5 i Try.underlying52 hi g0 0 0 0 ⟨g, 0, none⟩ 0 cap [] (by simp) (fun j u h => by simp at h) (fun u h => by cases h) (by simp) (fun j h => by simp at h) (fun j h => by simp at h)
  simpa [World.setCells] using this
theorem run_copyB (hb : Blk w g 5 (bc cur)) (h4 : cur.take da.length = da) (hl : da.length ≤ 1000000000) (h0 : 0 < da.length) :
    (Builtin.append_ #[52, 52] ty #[.slice (some ⟨g0, 0, none⟩) 0 0, .slice (some ⟨g, 0, none⟩) da.length cap]).run Try.prog w = .ok (.slice (some ⟨w.heap.size, 0, none⟩) da.length (grownCap w da.length 0 5)) (w.drew.alloc (.cells (bc (da ++ List.replicate (grownCap w da.length 0 5 - da.length) 0)) 5)) := by
  obtain ⟨i, hi, hz, k1, h8⟩ := info5'
  have hr := run_append_grow (P := Try.prog) w 52 ty 5 i (.int .u8 0) Try.underlying52 hi hz ⟨g0, 0, none⟩ 0 0 [] (by simp) (fun j v h => by simp at h) ⟨g, 0, none⟩ da.length cap (da.map by8) (by rw [k1]; simp) (fun j u hu => by
    have hadd : (⟨g, 0, none⟩ : Addr).add j = ⟨g, j, none⟩ := by unfold Addr.add; split <;> simp_all
    rw [hadd, hb.cell j]
    have hj : j < da.length := by
      have := (List.getElem?_eq_some_iff.1 hu).1
      simpa using this
    have : (cur.take da.length)[j]? = da[j]? := by rw [h4]
    rw [List.getElem?_take_of_lt hj] at this
    simp only [bc, List.getElem?_toArray, List.getElem?_map, this]
    simpa using hu) (by omega) (by simp; omega) (by rw [h8]; exact growslice_fits (by omega) (by omega))
  have e1 : ([] : List Value).toArray ++ (da.map by8).toArray = bc da := by simp [bc]
  rw [Nat.zero_add, e1, zeros_bc, bc_app] at hr
  exact hr
end
/-- what a call has made, beside what was -/
theorem HA.join {z : Base} {L N : BL} {M : ML} {w w' : World} (H : HA z L w) (K : HA ⟨w, M⟩ N w') : HA ⟨z.w, M ++ z.M⟩ (N ++ L) w' := by
  have H' := H.keep _ _ K.old.old
  have hz := H.size
  refine ⟨⟨H'.old.old, fun m hm => ?_, fun m hm => ?_, ?_⟩, fun x hx => ?_, fun x hx => ?_, ?_⟩
  · rcases List.mem_append.1 hm with hm | hm
    · exact K.old.maps m hm
    · exact H'.old.maps m hm
  · rcases List.mem_append.1 hm with hm | hm
    · exact Nat.le_trans hz (K.old.mown m hm)
    · exact H.old.mown m hm
  · rw [List.map_append, List.nodup_append]
    refine ⟨K.old.mnd, H.old.mnd, fun a ha b hb e => ?_⟩
    obtain ⟨m, hm, rfl⟩ := List.mem_map.1 ha
    obtain ⟨n, hn, rfl⟩ := List.mem_map.1 hb
    have h1 := lt_of_block (H.old.maps n hn)
    have h2 := K.old.mown m hm
    simp only at h2
    omega
  · rcases List.mem_append.1 hx with hx | hx
    · exact K.blk x hx
    · exact H'.blk x hx
  · rcases List.mem_append.1 hx with hx | hx
    · exact Nat.le_trans hz (K.own x hx)
    · exact H.own x hx
  · rw [List.map_append, List.nodup_append]
    refine ⟨K.nd, H.nd, fun a ha b hb e => ?_⟩
    obtain ⟨m, hm, rfl⟩ := List.mem_map.1 ha
    obtain ⟨n, hn, rfl⟩ := List.mem_map.1 hb
    have h1 := (H.blk n hn).lt
    have h2 : w.heap.size ≤ m.1 := K.own m hm
    omega
theorem HA.dropM {w0 : World} {M M' : ML} {L : BL} {w : World} (H : HA ⟨w0, M ++ M'⟩ L w) : HA ⟨w0, M'⟩ L w :=
  ⟨⟨H.old.old, fun m hm => H.old.maps m (by simp only [List.mem_append]; exact .inr hm), fun m hm => H.old.mown m (by simp only [List.mem_append]; exact .inr hm), by have := H.old.mnd; rw [List.map_append, List.nodup_append] at this; exact this.2.1⟩, H.blk, H.own, H.nd⟩
section
variable {P : Program} {ops : Array Oper} {S : World → Prop} {J : Act → World → Prop} {n : Nat} {l lp : List Nat} {a : Act} {w : World} {z : Base} {L : BL} {i : Nat}
theorem ex_skipT {o : Oper} (ho : ops.toList[i]? = some o) (hw : Region.wanted o (yielded ops a.tmps) = true) (H : HA z L w)
    (h : ∀ w1, HA z L w1 → ∃ w', (execOp a.eval o).run P w1 = .ok .skip w' ∧ S w' ∧ WXS P ops J n S (i :: l) lp (a.put o.dst undef) w') : EX P ops J n S l lp i a w := ⟨fun x hx => by
  rw [lget ho] at hx
  cases hx
  refine ⟨hw, fun w1 hb1 _ => ?_⟩
  obtain ⟨w', hr, hS', hK⟩ := h w1 (HA.keep _ _ H hb1)
  unfold Oper.wp
  rw [hr]
  exact ⟨⟨_, rfl⟩, S, .inr rfl, hS', hK.go⟩⟩
/-- a new block, where others may still read -/
theorem ex_makeS {o : Oper} {c : Array Value} (ho : ops.toList[i]? = some o) (hw : Region.wanted o (yielded ops a.tmps) = true) (H : HA z L w) (t : TypeId)
    (hr : ∀ w, (execOp a.eval o).run P w = .ok (.value (.pointer (some ⟨w.heap.size, 0, none⟩))) (w.alloc (.cells c t)))
    (h : ∀ q w', HA z ((q, t, c) :: L) w' → S w' ∧ WXS P ops J n S (i :: l) lp (a.put o.dst (.pointer (some ⟨q, 0, none⟩))) w') : EX P ops J n S l lp i a w := ⟨fun x hx => by
  rw [lget ho] at hx
  cases hx
  refine ⟨hw, fun w1 hb1 _ => ?_⟩
  obtain ⟨hS', hK⟩ := h w1.heap.size _ ((HA.keep _ _ H hb1).make t c)
  unfold Oper.wp
  rw [hr]
  exact ⟨⟨_, rfl⟩, S, .inr rfl, hS', hK.go⟩⟩
end
theorem run_lenM {ρ : Operand → Value} {x : Operand} {w : World} {dst : Option Tmp} {ty : TypeId} {pos : String} {aft : Array Edge} {gd : Option (Nat × Bool)} {r nx : Nat} {fl : List Fl} (hb : w.heap[r]? = some (.map (eF fl) nx)) (hx : ρ x = .map (some r)) :
    (execOp ρ ⟨dst, .call { callee := .builtin .len, args := #[x], argTypes := #[59] }, ty, pos, aft, gd⟩).run Try.prog w = .ok (.value (iN .i64 fl.length)) w := by
  have hg : (getObj r).run Try.prog w = .ok (.map (eF fl) nx) w := by simp [getObj, Sem.run, hb]
  unfold execOp
  simp [resolve, invoke, builtin, hx, Builtin.len_, run_underlying Try.underlying59, hg, eF, iN, goInt]
theorem FK.perm {fl fl' : List Fl} {nx : Nat} (h : FK fl nx) (hp : fl.Perm fl') : FK fl' nx := ⟨fun f hf => h.row f (hp.mem_iff.2 hf), fun f hf => h.syn f (hp.mem_iff.2 hf), (hp.map _).nodup_iff.1 h.nms, fun f hf => h.old f (hp.mem_iff.2 hf), (hp.map _).nodup_iff.1 h.bns⟩
/-- a file made anew under a name that is not there -/
theorem FK.moreN {fl : List Fl} {nx : Nat} {f : Fl} (h : FK fl nx) (hr : RowB f.v f.da f.Lr) (hs : f.sy ≤ f.da.length) (hn : ∀ g ∈ fl, g.nm ≠ f.nm) (hb : f.bn = nx) : FK (fl ++ [f]) (nx + 1) := by
  refine ⟨fun g hg => ?_, fun g hg => ?_, ?_, fun g hg => ?_, ?_⟩
  · rcases List.mem_append.1 hg with hg | hg
    · exact h.row g hg
    · obtain rfl := List.mem_singleton.1 hg; exact hr
  · rcases List.mem_append.1 hg with hg | hg
    · exact h.syn g hg
    · obtain rfl := List.mem_singleton.1 hg; exact hs
  · rw [List.map_append, List.nodup_append]
    exact ⟨h.nms, by simp, fun a ha b hb' e => by
      obtain ⟨g, hg, rfl⟩ := List.mem_map.1 ha
      exact hn g hg (by simpa [e] using hb')⟩
  · rcases List.mem_append.1 hg with hg | hg
    · exact Nat.lt_succ_of_lt (h.old g hg)
    · obtain rfl := List.mem_singleton.1 hg; omega
  · rw [List.map_append, List.nodup_append]
    exact ⟨h.bns, by simp, fun a ha b hb' e => by
      obtain ⟨g, hg, rfl⟩ := List.mem_map.1 ha
      have := h.old g hg
      have e2 : b = f.bn := by simpa using hb'
      omega⟩
theorem DB.perm {D D' : DS} {U N : Nat} (h : DB D U N) (hp : D.fs.Perm D'.fs) (h1 : D'.free = D.free) (h2 : D'.left = D.left) (h3 : D'.sizes = D.sizes) : DB D' U N := by
  have e : used D'.fs = used D.fs := by unfold used; exact ((hp.map (fun x : FA => x.da.length)).sum_nat).symm
  refine ⟨by rw [h1, e]; exact h.rm, by rw [h2]; exact h.lf, by rw [e]; exact h.us, by rw [h3]; exact h.sz, fun x hx => h.nm x (hp.mem_iff.2 hx), by rw [← hp.length_eq]; exact h.ct, (hp.map _).nodup_iff.1 h.nd⟩
end Go.Proofs.Ytjedhnjjgmbcbaa
