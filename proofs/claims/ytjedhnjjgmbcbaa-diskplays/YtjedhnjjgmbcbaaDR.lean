/-
  Going through a map; names sorted.
-/
import Derived.Test.YtjedhnjjgmbcbaaD10
import Derived.Sort.OwnSorted
namespace Go.Proofs.Ytjedhnjjgmbcbaa
open Go.RowKit Go.Sort

theorem HA.rowS {z : Base} {L : BL} {w : World} {q : Nat} {c : Array Value} (H : HA z ((q, 9, c) :: L) w) (d : Array (List UInt8)) (n : Nat) (os : Array Obj) : HA z ((q, 9, Sort.putCells encStr 0 d c) :: L) (Sort.grow (Sort.putRow encStr (Sort.ahead w n) q 0 d) os) := by
  have hq := H.get 0 rfl
  have hnd := H.nd
  simp only [List.map_cons, List.nodup_cons] at hnd
  have hlt : q < w.heap.size := hq.lt
  have hne : ∀ b, b < w.heap.size → b ≠ q → (Sort.grow (Sort.putRow encStr (Sort.ahead w n) q 0 d) os).heap[b]? = w.heap[b]? := fun b hb hbq => by
    rw [Sort.heap_grow_old _ _ (by simpa using hb)]
    simp [Sort.putRow, Sort.mapBlock, Array.getElem?_modify, Ne.symm hbq]
  have hB : Blk (Sort.grow (Sort.putRow encStr (Sort.ahead w n) q 0 d) os) q 9 (Sort.putCells encStr 0 d c) := by
    obtain ⟨f, hf, hff⟩ := hq
    refine ⟨f, ?_, ?_⟩
    · rw [Sort.heap_grow_old _ _ (by simpa using hlt)]
      simp only [Sort.putRow, Sort.mapBlock, Array.getElem?_modify, Sort.heap_ahead, hf, if_true]
      rfl
    · rcases hff with h | ⟨h, _⟩
      · exact .inl h
      · cases h
  have hg : w.grownBy (Sort.grow (Sort.putRow encStr (Sort.ahead w n) q 0 d) os) (some q) := ⟨rfl, rfl, rfl, by simp, fun b hb hbq => hne b hb (fun e => hbq (by rw [e]))⟩
  have HL : HA z L (Sort.grow (Sort.putRow encStr (Sort.ahead w n) q 0 d) os) := HA.grownL (row := some q) H.tl hg (fun k hk => by
    obtain rfl := Option.some.inj hk
    exact ⟨H.own _ (List.mem_cons_self ..), fun x hx e => hnd.1 (List.mem_map.2 ⟨x, hx, e⟩), H.tl.old.far hq⟩)
  exact HL.consNew hB (H.own _ (List.mem_cons_self ..)) (fun x hx e => hnd.1 (List.mem_map.2 ⟨x, hx, e⟩))
/-- a row of names is sorted -/
theorem sort_row {z : Base} {L Lr : BL} {w : World} {v : Value} {ss : List (List UInt8)} (hR : Row 9 1 v ss.length (ss.map encStr) Lr) (H : HA z (Lr ++ L) w) (hl : ss.length ≤ 1000000) :
    Calls Try.prog 61 #[v] w fun e w' => e = .returned (.tuple #[]) ∧ ∃ Lr', Row 9 1 v ss.length ((ss.mergeSort leB).map encStr) Lr' ∧ HA z (Lr' ++ L) w' := by
  rcases hR.2 with ⟨rfl, h2, rfl⟩ | ⟨g, cap, cur, rfl, rfl, k1, k2, k3, k4⟩
  · have hn : ss = [] := List.length_eq_zero_iff.1 h2
    subst hn
    refine (Try.slices_Sort_string_none none 0 w).mono ?_
    rintro e w' ⟨rfl, rfl⟩
    exact ⟨rfl, [], by simpa using Row.nil 9 1, H⟩
  · have hb : Blk w g 9 cur := H.get 0 rfl
    rw [Nat.mul_one] at k3 k4
    have hcell : ∀ j, j < ss.length → cur[j]? = some (encStr (ss.getD j [])) := fun j hj => by
      have h1 : (cur.toList.take ss.length)[j]? = (ss.map encStr)[j]? := by rw [k4]
      rw [List.getElem?_take, if_pos hj, List.getElem?_map, List.getElem?_eq_getElem hj, Array.getElem?_toList] at h1
      rw [h1]
      simp [hj]
    refine (Try.slices_Sort_string g 0 cap ss w (fun j hj => ?_) hb.lt (by omega)).mono ?_
    · have hj' : j < ss.length := by simpa using hj
      rw [Nat.zero_add, hb.cell j, hcell j hj', getElem!_pos _ j (by simpa using hj)]
      exact ⟨by simp [hj'], hb.free j (by omega)⟩
    · rintro e w' ⟨rfl, n, os, rfl⟩
      refine ⟨rfl, [(g, 9, Sort.putCells encStr 0 (ss.mergeSort leB).toArray cur)], ⟨by simp, .inr ⟨g, cap, _, rfl, rfl, k1, k2, ?_, ?_⟩⟩, HA.rowS H _ n os⟩
      · simp [Sort.putCells, k3]
      · have h := take_putCells cur (ss.mergeSort leB) (by simp; omega)
        rw [List.length_mergeSort] at h
        rw [Nat.mul_one]
        exact h
/-! an iterator over a map -/
def bnA (pre : List Fl) : Array Nat := (pre.map (·.bn)).toArray
theorem bnA_push (pre : List Fl) (f : Fl) : (bnA pre).push f.bn = bnA (pre ++ [f]) := by simp [bnA]
section
variable {w0 : World} {M : ML} {L : BL} {w : World} {it r nx : Nat} {fl pre lft : List Fl} {ρ : Operand → Value} {x : Operand} {dst : Option Tmp} {ty : TypeId} {pos : String} {aft : Array Edge} {gd : Option (Nat × Bool)}
theorem run_range (hb : w.heap[r]? = some (.map (eF fl) nx)) (hx : ρ x = .map (some r)) :
    (execOp ρ ⟨dst, .range 59 x, ty, pos, aft, gd⟩).run Try.prog w = .ok (.value (.pointer (some ⟨w.heap.size, 0, none⟩))) (w.alloc (MO.it r nx #[] nx).obj) := by
  have hg : (getObj r).run Try.prog w = .ok (.map (eF fl) nx) w := by simp [getObj, Sem.run, hb]
  simp [execOp, hx, Instr.range, run_underlying Try.underlying59, hg, MO.obj]
theorem left_mem (hp : (pre ++ lft).Perm fl) {e : MapEntry} (he : e ∈ (leftOf (eF fl) (bnA pre)).toList) : ∃ f ∈ lft, e = ent f := by
  have h1 : e ∈ (eF fl).toList ∧ (!(bnA pre).contains e.born) = true := by
    have := he
    simp only [leftOf, Array.toList_filter, List.mem_filter] at this
    exact this
  obtain ⟨f, hf, rfl⟩ := List.mem_map.1 (show e ∈ fl.map ent by simpa [eF] using h1.1)
  rcases List.mem_append.1 (hp.mem_iff.2 hf) with h | h
  · exfalso
    have h2 := h1.2
    have : (bnA pre).contains f.bn = true := by
      simp only [bnA, List.contains_toArray]
      exact List.contains_iff_mem.2 (List.mem_map.2 ⟨f, h, rfl⟩)
    simp only [ent, this] at h2
    cases h2
  · exact ⟨f, h, rfl⟩
theorem left_none (hp : (pre ++ []).Perm fl) : (leftOf (eF fl) (bnA pre)).size = 0 := by
  cases h : (leftOf (eF fl) (bnA pre)).toList with
  | nil => rw [← Array.length_toList, h]; rfl
  | cons e l =>
    obtain ⟨f, hf, _⟩ := left_mem (e := e) hp (by rw [h]; exact .head _)
    cases hf
theorem left_some {g : Fl} (hp : (pre ++ (g :: lft)).Perm fl) (hK : FK fl nx) : (leftOf (eF fl) (bnA pre)).size ≠ 0 := fun h0 => by
  have hg : g ∈ fl := hp.mem_iff.1 (by simp)
  have hn : (bnA pre).contains g.bn = false := by
    cases h : (bnA pre).contains g.bn with
    | false => rfl
    | true =>
      simp only [bnA, List.contains_toArray] at h
      obtain ⟨f, hf, e⟩ := List.mem_map.1 (List.contains_iff_mem.1 h)
      have hnd : ((pre ++ (g :: lft)).map (·.bn)).Nodup := (hp.map _).nodup_iff.2 hK.bns
      rw [List.map_append, List.nodup_append] at hnd
      exact absurd e (hnd.2.2 f.bn (List.mem_map.2 ⟨f, hf, rfl⟩) g.bn (by simp))
  have hm : ent g ∈ (leftOf (eF fl) (bnA pre)).toList := by
    simp only [leftOf, Array.toList_filter, List.mem_filter]
    exact ⟨by simpa [eF] using ⟨g, hg, rfl⟩, by simp only [ent, hn]; rfl⟩
  rw [Array.eq_empty_of_size_eq_zero h0] at hm
  cases hm
theorem borns (hK : FK fl nx) : ∀ x ∈ (eF fl).toList, x.born < nx := fun x hx => by
  obtain ⟨f, hf, rfl⟩ := List.mem_map.1 (show x ∈ fl.map ent by simpa [eF] using hx)
  exact hK.old f hf
theorem run_next_end (hp : (pre ++ []).Perm fl) (hK : FK fl nx) (H : HA ⟨w0, (it, .it r nx (bnA pre) nx) :: M⟩ L w) (hb : w.heap[r]? = some (.map (eF fl) nx)) (hx : ρ x = .pointer (some ⟨it, 0, none⟩)) :
    (execOp ρ ⟨dst, .next x false, ty, pos, aft, gd⟩).run Try.prog w = .ok (.value (.tuple #[.bool false])) w := by
  have hi : w.heap[it]? = some (.mapIter (some r) nx (bnA pre) nx) := H.old.maps _ (List.mem_cons_self ..)
  rcases run_next_at (P := Try.prog) w ty it r nx nx (bnA pre) (eF fl) nx hi hb (borns hK) (Nat.le_refl _) with ⟨_, h⟩ | ⟨e, he, _⟩
  · simp only [execOp, hx, Sem.run_bind, h, Result.andThen_ok, Sem.run_pure]
  · obtain ⟨f, hf, _⟩ := left_mem hp he
    cases hf
theorem run_next_some {g : Fl} (hp : (pre ++ (g :: lft)).Perm fl) (hK : FK fl nx) (H : HA ⟨w0, (it, .it r nx (bnA pre) nx) :: M⟩ L w) (hb : w.heap[r]? = some (.map (eF fl) nx)) (hne : r ≠ it) (hx : ρ x = .pointer (some ⟨it, 0, none⟩)) :
    ∃ A f B w', g :: lft = A ++ f :: B ∧ (execOp ρ ⟨dst, .next x false, ty, pos, aft, gd⟩).run Try.prog w = .ok (.value (.tuple #[.bool true, .string f.nm, .pointer (some ⟨f.p, 0, none⟩)])) w' ∧
      HA ⟨w0, (it, .it r nx (bnA (pre ++ [f])) nx) :: M⟩ L w' ∧ w'.heap[r]? = some (.map (eF fl) nx) := by
  have hi : w.heap[it]? = some (.mapIter (some r) nx (bnA pre) nx) := H.old.maps _ (List.mem_cons_self ..)
  rcases run_next_at (P := Try.prog) w ty it r nx nx (bnA pre) (eF fl) nx hi hb (borns hK) (Nat.le_refl _) with ⟨h0, _⟩ | ⟨e, he, w1, hw1, h⟩
  · exact absurd h0 (left_some hp hK)
  · obtain ⟨f, hf, rfl⟩ := left_mem hp he
    obtain ⟨A, B, hAB⟩ := List.append_of_mem hf
    refine ⟨A, f, B, _, hAB, by simp only [execOp, hx, Sem.run_bind, h, Result.andThen_ok, Sem.run_pure]; rfl, ?_, ?_⟩
    · have H1 : HA ⟨w0, (it, .it r nx (bnA pre) nx) :: M⟩ L w1 := by
        rcases hw1 with rfl | rfl
        · exact H
        · exact H.drew
      have := H1.setM 0 (o' := .it r nx ((bnA pre).push f.bn) nx) rfl
      rw [bnA_push] at this
      rw [show (ent f).born = f.bn from rfl, bnA_push]
      exact this
    · have : w1.heap[r]? = some (.map (eF fl) nx) := by rcases hw1 with rfl | rfl <;> exact hb
      rw [← this]
      simp [ChangeMaps.setBlock, Ne.symm hne]
theorem run_entry_f {f : Fl} (hf : f ∈ fl) (hK : FK fl nx) (H : HA ⟨w0, (it, .it r nx (bnA (pre ++ [f])) nx) :: M⟩ L w) (hb : w.heap[r]? = some (.map (eF fl) nx)) (hx : ρ x = .pointer (some ⟨it, 0, none⟩)) :
    (execOp ρ ⟨dst, .entry x, ty, pos, aft, gd⟩).run Try.prog w = .ok (.value (.tuple #[.string f.nm, .pointer (some ⟨f.p, 0, none⟩)])) w := by
  have hi : w.heap[it]? = some (.mapIter (some r) nx ((bnA pre).push (ent f).born) nx) := by
    have := H.old.maps _ (List.mem_cons_self ..)
    rw [show (ent f).born = f.bn from rfl, bnA_push]
    exact this
  have := run_entry_at (P := Try.prog) w it r nx (bnA pre) (eF fl) nx (ent f) hi hb (by simpa [eF] using ⟨f, hf, rfl⟩) (by have := hK.bns; simpa [eF, ent, Function.comp_def] using this)
  simp only [execOp, hx, Sem.run_bind, this, Result.andThen_ok, Sem.run_pure]
  rfl
end
end Go.Proofs.Ytjedhnjjgmbcbaa
