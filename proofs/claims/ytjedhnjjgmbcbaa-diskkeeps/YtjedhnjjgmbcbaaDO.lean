/-
  Arguments opened: texts and numbers.
-/
import Derived.Test.YtjedhnjjgmbcbaaD16
import Derived.ProofKit
import Derived.OpenShut
import Derived.Deep.Slices
import Derived.ChangeOld
namespace Go.Proofs.Ytjedhnjjgmbcbaa
open Go.ChangeShapes Go.WideShapes Go.ChangeAt Go.RowKit Go.Deep

theorem exists_list {α : Type} (d : α) {P : Nat → α → Prop} : ∀ n, (∀ i, i < n → ∃ x, P i x) → ∃ l : List α, l.length = n ∧ ∀ i, i < n → P i (l.getD i d)
  | 0, _ => ⟨[], rfl, fun i hi => by omega⟩
  | n + 1, h => by
    obtain ⟨l, h1, h2⟩ := exists_list d n (fun i hi => h i (by omega))
    obtain ⟨x, hx⟩ := h n (by omega)
    refine ⟨l ++ [x], by simp [h1], fun i hi => ?_⟩
    by_cases e : i = n
    · subst e
      rw [List.getD_eq_getElem?_getD, List.getElem?_append_right (by omega), h1, Nat.sub_self]
      exact hx
    · have hi' : i < l.length := by omega
      rw [List.getD_eq_getElem?_getD, List.getElem?_append_left hi', ← List.getD_eq_getElem?_getD]
      exact h2 i (by omega)
theorem cells9 : Try.prog.cellsOf 9 = 1 := by kernel_rfl
theorem cells3 : Try.prog.cellsOf 3 = 1 := by kernel_rfl
section
variable {H : Type} {enc : TypeId × Value → H} {W : World}
set_option maxRecDepth 100000 in
theorem open50 {n : Nat} {cs : List Value} {x : DataW H × List MemPlace} (h : DataW.trod enc Try.prog W 0 (fun _ => true) true n 50 cs = some x) :
    ∃ (o : Option Addr) (ss : List ByteArray) (c : Nat), cs = [.slice o ss.length c] ∧ ss.length ≤ 9223372036854775807 ∧ (∀ i, i < ss.length → ∃ a, o = some a ∧ W.cell? (a.add i) = some (.string (ss.getD i { data := #[] })) ∧ (ss.getD i { data := #[] }).size ≤ maxLen) := by
  rcases open_slice Try.underlying50 h with ⟨rfl, _⟩ | ⟨a, len, cap, m, k, D, Pl, rfl, _, hl, hm, hmm, _, hx⟩
  · exact ⟨none, [], 0, rfl, by simp, fun i hi => by simp at hi⟩
  · have hmc : m = cap := by rw [hmm]; rfl
    rw [cells9] at hx
    obtain ⟨ss, h1, h2⟩ := exists_list ({ data := #[] } : ByteArray) (P := fun i (s : ByteArray) => W.cell? (a.add i) = some (.string s) ∧ s.size ≤ maxLen) len (fun i hi => by
      obtain ⟨cs', hc, ht⟩ := hx i (by omega)
      obtain ⟨_, hlen, hcell⟩ := World.cells?_some hc
      match cs', hlen with
      | [v0], _ =>
        have e0 := hcell 0 (by omega)
        obtain ⟨s, hs, _, hsz⟩ := DataW.trod_string Try.underlying9 ht
        cases hs
        refine ⟨s, ?_, hsz⟩
        rw [Nat.mul_one] at e0
        rw [show (a.add i).add 0 = a.add i by simp [Addr.add]] at e0
        simpa using e0)
    subst h1
    exact ⟨some a, ss, cap, rfl, Nat.le_trans hl hm, fun i hi => ⟨a, rfl, h2 i hi⟩⟩
set_option maxRecDepth 100000 in
theorem open26 {n : Nat} {cs : List Value} {x : DataW H × List MemPlace} (h : DataW.trod enc Try.prog W 0 (fun _ => true) true n 26 cs = some x) :
    ∃ (o : Option Addr) (ks : List Int) (c : Nat), cs = [.slice o ks.length c] ∧ ks.length ≤ 9223372036854775807 ∧ ks.length ≤ c ∧ IntA W o ks := by
  rcases open_slice Try.underlying26 h with ⟨rfl, _⟩ | ⟨a, len, cap, m, k, D, Pl, rfl, _, hl, hm, hmm, _, hx⟩
  · exact ⟨none, [], 0, rfl, by simp, Nat.le_refl _, fun i hi => by simp at hi⟩
  · have hmc : m = cap := by rw [hmm]; rfl
    rw [cells3] at hx
    obtain ⟨ks, h1, h2⟩ := exists_list (0 : Int) (P := fun i (z : Int) => W.cell? (a.add i) = some (.int .i64 z)) len (fun i hi => by
      obtain ⟨cs', hc, ht⟩ := hx i (by omega)
      obtain ⟨_, hlen, hcell⟩ := World.cells?_some hc
      match cs', hlen with
      | [v0], _ =>
        have e0 := hcell 0 (by omega)
        obtain ⟨z, hz, _⟩ := DataW.trod_int Try.underlying3 ht
        cases hz
        refine ⟨z, ?_⟩
        rw [Nat.mul_one] at e0
        rw [show (a.add i).add 0 = a.add i by simp [Addr.add]] at e0
        simpa using e0)
    subst h1
    exact ⟨some a, ks, cap, rfl, Nat.le_trans hl hm, hl, fun i hi => ⟨a, rfl, h2 i hi⟩⟩
set_option maxRecDepth 100000 in
theorem openS {r : Reach} {base : Nat} {v : Value} {d : DataW H} {p : List MemPlace} (hv : Value.okWide Try.prog W r base 50 v) (h : DataW.Trod enc Try.prog W 0 (fun _ => true) true 50 v d p) :
    ∃ (o : Option Addr) (ss : List ByteArray) (c : Nat), v = .slice o ss.length c ∧ ss.length ≤ 9223372036854775807 ∧ StrA W o ss ∧ ∀ i, i < ss.length → (ss.getD i { data := #[] }).size ≤ 9223372036854775807 := by
  obtain ⟨a0, len, cap, rfl⟩ := okWide_slice Try.underlying50 hv
  obtain ⟨fuel, hf⟩ := h
  obtain ⟨o, ss, c, h1, h2, h3⟩ := open50 hf
  have e : Value.slice a0 len cap = .slice o ss.length c := by simpa [Value.cells] using h1
  refine ⟨o, ss, c, e, h2, fun i hi => ?_, fun i hi => ?_⟩
  · obtain ⟨a, e1, e2, _⟩ := h3 i hi
    exact ⟨a, e1, e2⟩
  · obtain ⟨a, _, _, e3⟩ := h3 i hi
    simp only [maxLen] at e3
    omega
set_option maxRecDepth 100000 in
theorem openI {r : Reach} {base : Nat} {v : Value} {d : DataW H} {p : List MemPlace} (hv : Value.okWide Try.prog W r base 26 v) (h : DataW.Trod enc Try.prog W 0 (fun _ => true) true 26 v d p) :
    ∃ (o : Option Addr) (ks : List Int) (c : Nat), v = .slice o ks.length c ∧ ks.length ≤ 9223372036854775807 ∧ ks.length ≤ c ∧ IntA W o ks := by
  obtain ⟨a0, len, cap, rfl⟩ := okWide_slice Try.underlying26 hv
  obtain ⟨fuel, hf⟩ := h
  obtain ⟨o, ks, c, h1, h2, h3, h4⟩ := open26 hf
  have e : Value.slice a0 len cap = .slice o ks.length c := by simpa [Value.cells] using h1
  exact ⟨o, ks, c, e, h2, h3, h4⟩
end
end Go.Proofs.Ytjedhnjjgmbcbaa
