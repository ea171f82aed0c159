/-
  Arguments opened: turns.
-/
import Derived.Test.YtckmlaempffpjaaGreatSW
import Derived.ProofKit
import Derived.OpenShut
import Derived.Deep.Slices
import Derived.ChangeOld
namespace Go.Proofs.YtckmlaempffpjaaGreat
open Go.ChangeShapes Go.WideShapes Go.ChangeAt Go.RowKit Go.Deep

theorem exists_list {α : Type} (d : α) {P : Nat → α → Prop} : ∀ n, (∀ i, i < n → ∃ x, P i x) → ∃ l : List α, l.length = n ∧ ∀ i, i < n → P i (l.getD i d)
  | 0, _ => ⟨[], rfl, fun i hi => by omega⟩
  | n + 1, h => by
    obtain ⟨l, h1, h2⟩ := exists_list d n (fun i hi => h i (by omega))
    obtain ⟨x, hx⟩ := h n (by omega)
    refine ⟨l ++ [x], by simp [h1], fun i hi => ?_⟩
    by_cases e : i = n
    · subst e
      rw [List.getD_eq_getElem?_getD, List.getElem?_append_right (by omega), h1, Nat.sub_self]
      exact hx
    · have hi' : i < l.length := by omega
      rw [List.getD_eq_getElem?_getD, List.getElem?_append_left hi', ← List.getD_eq_getElem?_getD]
      exact h2 i (by omega)
theorem cells52 : Tryz.prog.cellsOf 52 = 11 := by kernel_rfl
section
variable {H : Type} {enc : TypeId × Value → H} {W : World}
theorem openU8 {n : Nat} {v : Value} {x : DataW H × List MemPlace} (h : DataW.trod enc Tryz.prog W 0 (fun _ => true) true n 5 [v] = some x) : ∃ z : Nat, v = iN .u8 z ∧ z < 256 := by
  obtain ⟨z, hz, hw⟩ := DataW.trod_int Tryz.underlying5 h
  have h4 : 0 ≤ z ∧ z ≤ 255 := by simpa [Lit.wf, IntKind.min, IntKind.max, IntKind.signed, IntKind.bits] using hw.2
  cases hz
  refine ⟨z.toNat, ?_, by omega⟩
  rw [iN, Int.toNat_of_nonneg h4.1]
theorem openU16 {n : Nat} {v : Value} {x : DataW H × List MemPlace} (h : DataW.trod enc Tryz.prog W 0 (fun _ => true) true n 50 [v] = some x) : ∃ z : Nat, v = iN .u16 z ∧ z < 65536 := by
  obtain ⟨z, hz, hw⟩ := DataW.trod_int Tryz.underlying50 h
  have h4 : 0 ≤ z ∧ z ≤ 65535 := by simpa [Lit.wf, IntKind.min, IntKind.max, IntKind.signed, IntKind.bits] using hw.2
  cases hz
  refine ⟨z.toNat, ?_, by omega⟩
  rw [iN, Int.toNat_of_nonneg h4.1]
theorem cells5 : Tryz.prog.cellsOf 5 = 1 := by kernel_rfl
set_option maxRecDepth 100000 in
theorem openA3 {n : Nat} {v0 v1 v2 : Value} {x : DataW H × List MemPlace} (h : DataW.trod enc Tryz.prog W 0 (fun _ => true) true n 49 [v0, v1, v2] = some x) : ∃ a b c : Nat, v0 = iN .u8 a ∧ v1 = iN .u8 b ∧ v2 = iN .u8 c ∧ a < 256 ∧ b < 256 ∧ c < 256 := by
  obtain ⟨xs, k, _, _, hl, hxl, hf⟩ := DataW.trod_array Tryz.underlying49 h
  match xs, hxl with
  | [y0, y1, y2], _ =>
    have g0 := hf 0 (by decide)
    have g1 := hf 1 (by decide)
    have g2 := hf 2 (by decide)
    rw [cells5] at g0 g1 g2
    obtain ⟨a, ha, ha2⟩ := openU8 (show DataW.trod enc Tryz.prog W 0 (fun _ => true) true k 5 [v0] = some y0 from g0)
    obtain ⟨b, hb, hb2⟩ := openU8 (show DataW.trod enc Tryz.prog W 0 (fun _ => true) true k 5 [v1] = some y1 from g1)
    obtain ⟨c, hc, hc2⟩ := openU8 (show DataW.trod enc Tryz.prog W 0 (fun _ => true) true k 5 [v2] = some y2 from g2)
    exact ⟨a, b, c, ha, hb, hc, ha2, hb2, hc2⟩
theorem get3 {a b c : Nat} (ha : a < 256) (hb : b < 256) (hc : c < 256) : ∀ i, [a, b, c].getD i 0 < 256 := fun i => by
  match i with
  | 0 => exact ha
  | 1 => exact hb
  | 2 => exact hc
  | n + 3 => simp
set_option maxRecDepth 100000 in
theorem open52 {n : Nat} {a : Addr} {cs : List Value} {x : DataW H × List MemPlace} (hc : W.cells? 0 a 11 = some cs) (h : DataW.trod enc Tryz.prog W 0 (fun _ => true) true n 52 cs = some x) :
    ∃ p : Tn, TnOk p ∧ ∀ j v, (tnc p)[j]? = some v → W.cell? (a.add j) = some v := by
  obtain ⟨_, hlen, hcell⟩ := World.cells?_some hc
  obtain ⟨xs, k, _, _, _, hxl, hf⟩ := DataW.trod_struct Tryz.underlying52 h
  match cs, hlen with
  | [v0, v1, v2, v3, v4, v5, v6, v7, v8, v9, v10], _ =>
    match xs, hxl with
    | [y0, y1, y2, y3, y4, y5, y6], _ =>
      have g0 : DataW.trod enc Tryz.prog W 0 (fun _ => true) true k 49 [v0, v1, v2] = some y0 := hf 0 _ rfl
      have g1 : DataW.trod enc Tryz.prog W 0 (fun _ => true) true k 49 [v3, v4, v5] = some y1 := hf 1 _ rfl
      have g2 : DataW.trod enc Tryz.prog W 0 (fun _ => true) true k 5 [v6] = some y2 := hf 2 _ rfl
      have g3 : DataW.trod enc Tryz.prog W 0 (fun _ => true) true k 50 [v7] = some y3 := hf 3 _ rfl
      have g4 : DataW.trod enc Tryz.prog W 0 (fun _ => true) true k 5 [v8] = some y4 := hf 4 _ rfl
      have g5 : DataW.trod enc Tryz.prog W 0 (fun _ => true) true k 3 [v9] = some y5 := hf 5 _ rfl
      have g6 : DataW.trod enc Tryz.prog W 0 (fun _ => true) true k 4 [v10] = some y6 := hf 6 _ rfl
      obtain ⟨a0, a1, a2, rfl, rfl, rfl, p0, p1, p2⟩ := openA3 g0
      obtain ⟨b0, b1, b2, rfl, rfl, rfl, q0, q1, q2⟩ := openA3 g1
      obtain ⟨m, rfl, hm⟩ := openU8 g2
      obtain ⟨s, rfl, hs⟩ := openU16 g3
      obtain ⟨r, rfl, hr⟩ := openU8 g4
      obtain ⟨z, hz, _⟩ := DataW.trod_int Tryz.underlying3 g5
      obtain ⟨b, hb, _⟩ := DataW.trod_bool Tryz.underlying4 g6
      cases hz
      cases hb
      refine ⟨⟨[a0, a1, a2], [b0, b1, b2], m, s, r, z, b⟩, ⟨rfl, rfl, get3 p0 p1 p2, get3 q0 q1 q2, hm, hs, hr⟩, fun j v hv => ?_⟩
      have hj : j < 11 := (Array.getElem?_eq_some_iff.1 hv).1
      have e := hcell j (by simpa using hj)
      rw [e]
      have e2 : (tnc ⟨[a0, a1, a2], [b0, b1, b2], m, s, r, z, b⟩)[j]? = ([iN .u8 a0, iN .u8 a1, iN .u8 a2, iN .u8 b0, iN .u8 b1, iN .u8 b2, iN .u8 m, iN .u16 s, iN .u8 r, .int .i64 z, .bool b] : List Value)[j]? := by
        rw [← Array.getElem?_toList]
        rfl
      rw [e2] at hv
      exact hv
set_option maxRecDepth 100000 in
theorem open44 {n : Nat} {cs : List Value} {x : DataW H × List MemPlace} (h : DataW.trod enc Tryz.prog W 0 (fun _ => true) true n 44 cs = some x) :
    ∃ (o : Option Addr) (xs : List Tn) (c : Nat), cs = [.slice o xs.length c] ∧ xs.length ≤ 9223372036854775807 ∧ TnA W o xs := by
  rcases open_slice Tryz.underlying44 h with ⟨rfl, _⟩ | ⟨a, len, cap, m, k, D, Pl, rfl, _, hl, hm, hmm, _, hx⟩
  · exact ⟨none, [], 0, rfl, by simp, fun i hi => by simp at hi⟩
  · have hmc : m = cap := by rw [hmm]; rfl
    rw [cells52] at hx
    obtain ⟨xs, h1, h2⟩ := exists_list tn0 (P := fun i (p : Tn) => TnOk p ∧ ∀ j v, (tnc p)[j]? = some v → W.cell? ((a.add (i * 11)).add j) = some v) len (fun i hi => by
      obtain ⟨cs', hc, ht⟩ := hx i (by omega)
      exact open52 hc ht)
    subst h1
    exact ⟨some a, xs, cap, rfl, Nat.le_trans hl hm, fun i hi => ⟨a, rfl, h2 i hi⟩⟩
set_option maxRecDepth 100000 in
theorem openT {r : Reach} {base : Nat} {v : Value} {d : DataW H} {p : List MemPlace} (hv : Value.okWide Tryz.prog W r base 44 v) (h : DataW.Trod enc Tryz.prog W 0 (fun _ => true) true 44 v d p) :
    ∃ (o : Option Addr) (xs : List Tn) (c : Nat), v = .slice o xs.length c ∧ xs.length ≤ 9223372036854775807 ∧ TnA W o xs := by
  obtain ⟨a0, len, cap, rfl⟩ := okWide_slice Tryz.underlying44 hv
  obtain ⟨fuel, hf⟩ := h
  obtain ⟨o, xs, c, h1, h2⟩ := open44 hf
  have e : Value.slice a0 len cap = .slice o xs.length c := by simpa [Value.cells] using h1
  exact ⟨o, xs, c, e, h2⟩
end
end Go.Proofs.YtckmlaempffpjaaGreat
