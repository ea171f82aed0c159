/-
  Arguments opened: rows.
-/
import Derived.Test.YtckmlaempffpjaaSOrd
import Derived.ProofKit
import Derived.OpenShut
import Derived.Deep.Slices
import Derived.ChangeOld
namespace Go.Proofs.Ytckmlaempffpjaa
open Go.ChangeShapes Go.WideShapes Go.ChangeAt Go.RowKit Go.Deep

theorem exists_list {α : Type} (d : α) {P : Nat → α → Prop} : ∀ n, (∀ i, i < n → ∃ x, P i x) → ∃ l : List α, l.length = n ∧ ∀ i, i < n → P i (l.getD i d)
  | 0, _ => ⟨[], rfl, fun i hi => by omega⟩
  | n + 1, h => by
    obtain ⟨l, h1, h2⟩ := exists_list d n (fun i hi => h i (by omega))
    obtain ⟨x, hx⟩ := h n (by omega)
    refine ⟨l ++ [x], by simp [h1], fun i hi => ?_⟩
    by_cases e : i = n
    · subst e
      rw [List.getD_eq_getElem?_getD, List.getElem?_append_right (by omega), h1, Nat.sub_self]
      exact hx
    · have hi' : i < l.length := by omega
      rw [List.getD_eq_getElem?_getD, List.getElem?_append_left hi', ← List.getD_eq_getElem?_getD]
      exact h2 i (by omega)
theorem cells32 : Try.prog.cellsOf 32 = 2 := by kernel_rfl
section
variable {H : Type} {enc : TypeId × Value → H} {W : World}
set_option maxRecDepth 100000 in
theorem open32 {n : Nat} {a : Addr} {cs : List Value} {x : DataW H × List MemPlace} (hc : W.cells? 0 a 2 = some cs) (h : DataW.trod enc Try.prog W 0 (fun _ => true) true n 32 cs = some x) :
    ∃ p : Rw, W.cell? (a.add 0) = some (.string p.k) ∧ W.cell? (a.add 1) = some (.string p.v) ∧ p.k.size ≤ 9223372036854775807 ∧ p.v.size ≤ 9223372036854775807 := by
  obtain ⟨_, hlen, hcell⟩ := World.cells?_some hc
  obtain ⟨xs, k, _, _, _, hxl, hf⟩ := DataW.trod_struct Try.underlying32 h
  match cs, hlen with
  | [v0, v1], _ =>
    have e0 := hcell 0 (by omega)
    have e1 := hcell 1 (by omega)
    match xs, hxl with
    | [y0, y1], _ =>
      have g0 : DataW.trod enc Try.prog W 0 (fun _ => true) true k 9 [v0] = some y0 := hf 0 _ rfl
      have g1 : DataW.trod enc Try.prog W 0 (fun _ => true) true k 9 [v1] = some y1 := hf 1 _ rfl
      obtain ⟨s, hs, _, hsz⟩ := DataW.trod_string Try.underlying9 g0
      obtain ⟨s2, hs2, _, hsz2⟩ := DataW.trod_string Try.underlying9 g1
      cases hs
      cases hs2
      simp only [maxLen] at hsz hsz2
      exact ⟨⟨s, s2⟩, by simpa using e0, by simpa using e1, by show s.size ≤ _; omega, by show s2.size ≤ _; omega⟩
set_option maxRecDepth 100000 in
theorem open22 {n : Nat} {cs : List Value} {x : DataW H × List MemPlace} (h : DataW.trod enc Try.prog W 0 (fun _ => true) true n 22 cs = some x) :
    ∃ (o : Option Addr) (xs : List Rw) (c : Nat), cs = [.slice o xs.length c] ∧ xs.length ≤ 9223372036854775807 ∧ xs.length ≤ c ∧ RwA W o xs := by
  rcases open_slice Try.underlying22 h with ⟨rfl, _⟩ | ⟨a, len, cap, m, k, D, Pl, rfl, _, hl, hm, hmm, _, hx⟩
  · exact ⟨none, [], 0, rfl, by simp, Nat.le_refl _, fun i hi => by simp at hi⟩
  · have hmc : m = cap := by rw [hmm]; rfl
    rw [cells32] at hx
    obtain ⟨xs, h1, h2⟩ := exists_list (⟨eB, eB⟩ : Rw) (P := fun i (p : Rw) => W.cell? ((a.add (i * 2)).add 0) = some (.string p.k) ∧ W.cell? ((a.add (i * 2)).add 1) = some (.string p.v) ∧ p.k.size ≤ 9223372036854775807 ∧ p.v.size ≤ 9223372036854775807) len (fun i hi => by
      obtain ⟨cs', hc, ht⟩ := hx i (by omega)
      exact open32 hc ht)
    subst h1
    exact ⟨some a, xs, cap, rfl, Nat.le_trans hl hm, hl, fun i hi => ⟨a, rfl, h2 i hi⟩⟩
set_option maxRecDepth 100000 in
theorem openR {r : Reach} {base : Nat} {v : Value} {d : DataW H} {p : List MemPlace} (hv : Value.okWide Try.prog W r base 22 v) (h : DataW.Trod enc Try.prog W 0 (fun _ => true) true 22 v d p) :
    ∃ (o : Option Addr) (xs : List Rw) (c : Nat), v = .slice o xs.length c ∧ xs.length ≤ 9223372036854775807 ∧ xs.length ≤ c ∧ RwA W o xs := by
  obtain ⟨a0, len, cap, rfl⟩ := okWide_slice Try.underlying22 hv
  obtain ⟨fuel, hf⟩ := h
  obtain ⟨o, xs, c, h1, h2⟩ := open22 hf
  have e : Value.slice a0 len cap = .slice o xs.length c := by simpa [Value.cells] using h1
  exact ⟨o, xs, c, e, h2⟩
end
end Go.Proofs.Ytckmlaempffpjaa
