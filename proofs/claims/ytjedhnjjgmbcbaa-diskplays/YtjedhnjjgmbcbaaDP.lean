/-
  Arguments opened: steps.
-/
import Derived.Test.YtjedhnjjgmbcbaaR14
import Derived.ProofKit
import Derived.OpenShut
import Derived.Deep.Slices
import Derived.ChangeOld
namespace Go.Proofs.Ytjedhnjjgmbcbaa
open Go.ChangeShapes Go.WideShapes Go.ChangeAt Go.RowKit Go.Deep

theorem exists_list {α : Type} (d : α) {P : Nat → α → Prop} : ∀ n, (∀ i, i < n → ∃ x, P i x) → ∃ l : List α, l.length = n ∧ ∀ i, i < n → P i (l.getD i d)
  | 0, _ => ⟨[], rfl, fun i hi => by omega⟩
  | n + 1, h => by
    obtain ⟨l, h1, h2⟩ := exists_list d n (fun i hi => h i (by omega))
    obtain ⟨x, hx⟩ := h n (by omega)
    refine ⟨l ++ [x], by simp [h1], fun i hi => ?_⟩
    by_cases e : i = n
    · subst e
      rw [List.getD_eq_getElem?_getD, List.getElem?_append_right (by omega), h1, Nat.sub_self]
      exact hx
    · have hi' : i < l.length := by omega
      rw [List.getD_eq_getElem?_getD, List.getElem?_append_left hi', ← List.getD_eq_getElem?_getD]
      exact h2 i (by omega)
theorem cells3 : Try.prog.cellsOf 3 = 1 := by kernel_rfl
theorem cells31 : Try.prog.cellsOf 31 = 5 := by kernel_rfl
section
variable {H : Type} {enc : TypeId × Value → H} {W : World}
set_option maxRecDepth 100000 in
theorem open26 {n : Nat} {cs : List Value} {x : DataW H × List MemPlace} (h : DataW.trod enc Try.prog W 0 (fun _ => true) true n 26 cs = some x) :
    ∃ (o : Option Addr) (ks : List Int) (c : Nat), cs = [.slice o ks.length c] ∧ ks.length ≤ 9223372036854775807 ∧ ks.length ≤ c ∧ IntB W o ks := by
  rcases open_slice Try.underlying26 h with ⟨rfl, _⟩ | ⟨a, len, cap, m, k, D, Pl, rfl, _, hl, hm, hmm, _, hx⟩
  · exact ⟨none, [], 0, rfl, by simp, Nat.le_refl _, fun i hi => by simp at hi⟩
  · have hmc : m = cap := by rw [hmm]; rfl
    rw [cells3] at hx
    obtain ⟨ks, h1, h2⟩ := exists_list (0 : Int) (P := fun i (z : Int) => W.cell? (a.add i) = some (.int .i64 z)) len (fun i hi => by
      obtain ⟨cs', hc, ht⟩ := hx i (by omega)
      obtain ⟨_, hlen, hcell⟩ := World.cells?_some hc
      match cs', hlen with
      | [v0], _ =>
        have e0 := hcell 0 (by omega)
        obtain ⟨z, hz, _⟩ := DataW.trod_int Try.underlying3 ht
        cases hz
        refine ⟨z, ?_⟩
        rw [Nat.mul_one] at e0
        rw [show (a.add i).add 0 = a.add i by simp [Addr.add]] at e0
        simpa using e0)
    subst h1
    exact ⟨some a, ks, cap, rfl, Nat.le_trans hl hm, hl, fun i hi => ⟨a, rfl, h2 i hi⟩⟩
set_option maxRecDepth 100000 in
theorem open31 {n : Nat} {a : Addr} {cs : List Value} {x : DataW H × List MemPlace} (hc : W.cells? 0 a 5 = some cs) (h : DataW.trod enc Try.prog W 0 (fun _ => true) true n 31 cs = some x) :
    ∃ p : Dd, DdOk W a p := by
  obtain ⟨_, hlen, hcell⟩ := World.cells?_some hc
  obtain ⟨xs, k, _, _, _, hxl, hf⟩ := DataW.trod_struct Try.underlying31 h
  match cs, hlen with
  | [v0, v1, v2, v3, v4], _ =>
    have e0 := hcell 0 (by omega)
    have e1 := hcell 1 (by omega)
    have e2 := hcell 2 (by omega)
    have e3 := hcell 3 (by omega)
    have e4 := hcell 4 (by omega)
    match xs, hxl with
    | [y0, y1, y2, y3, y4], _ =>
      have g0 := hf 0 _ rfl
      have g1 := hf 1 _ rfl
      have g2 := hf 2 _ rfl
      have g3 := hf 3 _ rfl
      have g4 := hf 4 _ rfl
      have g0 : DataW.trod enc Try.prog W 0 (fun _ => true) true k 3 [v0] = some y0 := g0
      have g1 : DataW.trod enc Try.prog W 0 (fun _ => true) true k 9 [v1] = some y1 := g1
      have g2 : DataW.trod enc Try.prog W 0 (fun _ => true) true k 9 [v2] = some y2 := g2
      have g3 : DataW.trod enc Try.prog W 0 (fun _ => true) true k 3 [v3] = some y3 := g3
      have g4 : DataW.trod enc Try.prog W 0 (fun _ => true) true k 26 [v4] = some y4 := g4
      obtain ⟨z, hz, _⟩ := DataW.trod_int Try.underlying3 g0
      obtain ⟨s, hs, _, hsz⟩ := DataW.trod_string Try.underlying9 g1
      obtain ⟨s2, hs2, _, hsz2⟩ := DataW.trod_string Try.underlying9 g2
      obtain ⟨z3, hz3, hw3⟩ := DataW.trod_int Try.underlying3 g3
      obtain ⟨o, ks, c, hv, hle, hlc, hi⟩ := open26 g4
      cases hz
      cases hs
      cases hs2
      cases hz3
      cases hv
      simp only [maxLen] at hsz hsz2
      refine ⟨⟨z, s, s2, z3, o, c, ks⟩, by simpa using e0, by simpa using e1, by simpa using e2, by simpa using e3, by simpa using e4, hi, hle, hlc, by show s.size ≤ _; omega, by show s2.size ≤ _; omega, ?_⟩
      have := hw3.2
      have h4 : -9223372036854775808 ≤ z3 ∧ z3 ≤ 9223372036854775807 := by simpa [Lit.wf, IntKind.min, IntKind.max, IntKind.signed, IntKind.bits] using this
      exact h4.2
set_option maxRecDepth 100000 in
theorem open22 {n : Nat} {cs : List Value} {x : DataW H × List MemPlace} (h : DataW.trod enc Try.prog W 0 (fun _ => true) true n 22 cs = some x) :
    ∃ (o : Option Addr) (al : List Dd) (c : Nat), cs = [.slice o al.length c] ∧ al.length ≤ 9223372036854775807 ∧ DoA W o al := by
  rcases open_slice Try.underlying22 h with ⟨rfl, _⟩ | ⟨a, len, cap, m, k, D, Pl, rfl, _, hl, hm, hmm, _, hx⟩
  · exact ⟨none, [], 0, rfl, by simp, fun i hi => by simp at hi⟩
  · have hmc : m = cap := by rw [hmm]; rfl
    rw [cells31] at hx
    obtain ⟨al, h1, h2⟩ := exists_list dd0 (P := fun i (p : Dd) => DdOk W (a.add (i * 5)) p) len (fun i hi => by
      obtain ⟨cs', hc, ht⟩ := hx i (by omega)
      exact open31 hc ht)
    subst h1
    exact ⟨some a, al, cap, rfl, Nat.le_trans hl hm, fun i hi => ⟨a, rfl, h2 i hi⟩⟩
set_option maxRecDepth 100000 in
theorem openD {r : Reach} {base : Nat} {v : Value} {d : DataW H} {p : List MemPlace} (hv : Value.okWide Try.prog W r base 22 v) (h : DataW.Trod enc Try.prog W 0 (fun _ => true) true 22 v d p) :
    ∃ (o : Option Addr) (al : List Dd) (c : Nat), v = .slice o al.length c ∧ al.length ≤ 9223372036854775807 ∧ DoA W o al := by
  obtain ⟨a0, len, cap, rfl⟩ := okWide_slice Try.underlying22 hv
  obtain ⟨fuel, hf⟩ := h
  obtain ⟨o, al, c, h1, h2⟩ := open22 hf
  have e : Value.slice a0 len cap = .slice o al.length c := by simpa [Value.cells] using h1
  exact ⟨o, al, c, e, h2⟩
end
end Go.Proofs.Ytjedhnjjgmbcbaa
