/-
 Arguments opened: acts and pieces.
-/
import Derived.Test.YtihfeoanognonaaGreatT45
import Derived.ProofKit
import Derived.OpenShut
import Derived.Deep.Slices
import Derived.ChangeOld
namespace Go.Proofs.YtihfeoanognonaaGreat
set_option maxRecDepth 100000
open Go.ChangeShapes Go.WideShapes Go.ChangeAt Go.RowKit Go.Deep
theorem exists_list {α : Type} (d : α) {P : Nat → α → Prop} : ∀ n, (∀ i, i < n → ∃ x, P i x) → ∃ l : List α, l.length = n ∧ ∀ i, i < n → P i (l.getD i d)
 | 0, _ => ⟨[], rfl, fun i hi => by omega⟩
 | n + 1, h => by
  obtain ⟨l, h1, h2⟩ := exists_list d n (fun i hi => h i (by omega))
  obtain ⟨x, hx⟩ := h n (by omega)
  refine ⟨l ++ [x], by simp [h1], fun i hi => ?_⟩
  by_cases e : i = n
  ·subst e
   rw [List.getD_eq_getElem?_getD, List.getElem?_append_right (by omega), h1, Nat.sub_self]
   exact hx
  ·have hi' : i < l.length := by omega
   rw [List.getD_eq_getElem?_getD, List.getElem?_append_left hi', ← List.getD_eq_getElem?_getD]
   exact h2 i (by omega)
theorem cells98 : Tryz.prog.cellsOf 54 = 2 := by kernel_rfl
theorem cells56 : Tryz.prog.cellsOf 40 = 3 := by kernel_rfl
section
variable {H : Type} {enc : TypeId × Value → H} {W : World}
theorem open98 {n : Nat} {a : Addr} {cs : List Value} {x : DataW H × List MemPlace} (hc : W.cells? 0 a 2 = some cs) (h : DataW.trod enc Tryz.prog W 0 (fun _ => true) true n 54 cs = some x) :
  ∃ p : Int × ByteArray, W.cell? a = some (.int .i64 p.1) ∧ W.cell? (a.add 1) = some (.string p.2) := by
 obtain ⟨_, hlen, hcell⟩ := World.cells?_some hc
 obtain ⟨xs, k, _, _, _, hxl, hf⟩ := DataW.trod_struct Tryz.underlying54 h
 match cs, hlen with
 | [v0, v1], _ =>
  have e0 := hcell 0 (by omega)
  have e1 := hcell 1 (by omega)
  match xs, hxl with
  | [y0, y1], _ =>
   have g0 := hf 0 _ rfl
   have g1 := hf 1 _ rfl
   have g0 : DataW.trod enc Tryz.prog W 0 (fun _ => true) true k 3 [v0] = some y0 := g0
   have g1 : DataW.trod enc Tryz.prog W 0 (fun _ => true) true k 9 [v1] = some y1 := g1
   obtain ⟨z, hz, _⟩ := DataW.trod_int Tryz.underlying3 g0
   obtain ⟨s, hs, _⟩ := DataW.trod_string Tryz.underlying9 g1
   cases hz
   cases hs
   exact ⟨(z, s), by simpa [Addr.add] using e0, by simpa using e1⟩
theorem open51 {n : Nat} {cs : List Value} {x : DataW H × List MemPlace} (h : DataW.trod enc Tryz.prog W 0 (fun _ => true) true n 23 cs = some x) :
  ∃ (o : Option Addr) (ps : List (Int × ByteArray)) (c : Nat), cs = [.slice o ps.length c] ∧ ps.length ≤ 9223372036854775807 ∧ PcA W o ps ∧ ps.length ≤ c ∧ (o = none → c = 0 ∧ ps.length = 0) := by
 rcases open_slice Tryz.underlying23 h with ⟨rfl, _⟩ | ⟨a, len, cap, m, k, D, Pl, rfl, _, hl, hm, hmm, _, hx⟩
 ·exact ⟨none, [], 0, rfl, by simp, fun i hi => by simp at hi, by simp, fun _ => ⟨rfl, rfl⟩⟩
 ·have hmc : m = cap := by rw [hmm]; rfl
  rw [cells98] at hx
  obtain ⟨ps, h1, h2⟩ := exists_list (0, ByteArray.empty) (P := fun i (p : Int × ByteArray) => W.cell? (a.add (i * 2)) = some (.int .i64 p.1) ∧ W.cell? (a.add (i * 2 + 1)) = some (.string p.2)) len (fun i hi => by
   obtain ⟨cs', hc, ht⟩ := hx i (by omega)
   obtain ⟨p, e1, e2⟩ := open98 hc ht
   rw [Addr.add_addr] at e2
   exact ⟨p, e1, e2⟩)
  subst h1
  exact ⟨some a, ps, cap, rfl, Nat.le_trans hl hm, fun i hi => ⟨a, rfl, h2 i hi⟩, hl, fun e => by cases e⟩
theorem open56 {n : Nat} {a : Addr} {cs : List Value} {x : DataW H × List MemPlace} (hc : W.cells? 0 a 3 = some cs) (h : DataW.trod enc Tryz.prog W 0 (fun _ => true) true n 40 cs = some x) :
  ∃ p : Ac, W.cell? a = some (.int .i64 p.z) ∧ W.cell? (a.add 1) = some (.string p.lb) ∧ W.cell? (a.add 2) = some (.slice p.po p.ps.length p.pc) ∧ PcA W p.po p.ps ∧ p.ps.length ≤ 9223372036854775807 := by
 obtain ⟨_, hlen, hcell⟩ := World.cells?_some hc
 obtain ⟨xs, k, _, _, _, hxl, hf⟩ := DataW.trod_struct Tryz.underlying40 h
 match cs, hlen with
 | [v0, v1, v2], _ =>
  have e0 := hcell 0 (by omega)
  have e1 := hcell 1 (by omega)
  have e2 := hcell 2 (by omega)
  match xs, hxl with
  | [y0, y1, y2], _ =>
   have g0 := hf 0 _ rfl
   have g1 := hf 1 _ rfl
   have g2 := hf 2 _ rfl
   have g0 : DataW.trod enc Tryz.prog W 0 (fun _ => true) true k 3 [v0] = some y0 := g0
   have g1 : DataW.trod enc Tryz.prog W 0 (fun _ => true) true k 9 [v1] = some y1 := g1
   have g2 : DataW.trod enc Tryz.prog W 0 (fun _ => true) true k 23 [v2] = some y2 := g2
   obtain ⟨z, hz, _⟩ := DataW.trod_int Tryz.underlying3 g0
   obtain ⟨s, hs, _⟩ := DataW.trod_string Tryz.underlying9 g1
   obtain ⟨o, ps, c, hv, hle, hpc, _⟩ := open51 g2
   cases hz
   cases hs
   cases hv
   exact ⟨⟨z, s, o, c, ps⟩, by simpa [Addr.add] using e0, by simpa using e1, by simpa using e2, hpc, hle⟩
theorem open22 {n : Nat} {cs : List Value} {x : DataW H × List MemPlace} (h : DataW.trod enc Tryz.prog W 0 (fun _ => true) true n 22 cs = some x) :
  ∃ (o : Option Addr) (al : List Ac) (c : Nat), cs = [.slice o al.length c] ∧ al.length ≤ 9223372036854775807 ∧ ActA W o al ∧ al.length ≤ c ∧ (o = none → c = 0 ∧ al.length = 0) := by
 rcases open_slice Tryz.underlying22 h with ⟨rfl, _⟩ | ⟨a, len, cap, m, k, D, Pl, rfl, _, hl, hm, hmm, _, hx⟩
 ·exact ⟨none, [], 0, rfl, by simp, fun i hi => by simp at hi, by simp, fun _ => ⟨rfl, rfl⟩⟩
 ·have hmc : m = cap := by rw [hmm]; rfl
  rw [cells56] at hx
  obtain ⟨al, h1, h2⟩ := exists_list ac0 (P := fun i (p : Ac) => W.cell? (a.add (i * 3)) = some (.int .i64 p.z) ∧ W.cell? (a.add (i * 3 + 1)) = some (.string p.lb) ∧ W.cell? (a.add (i * 3 + 2)) = some (.slice p.po p.ps.length p.pc) ∧ PcA W p.po p.ps ∧ p.ps.length ≤ 9223372036854775807) len (fun i hi => by
   obtain ⟨cs', hc, ht⟩ := hx i (by omega)
   obtain ⟨p, e1, e2, e3, e4, e5⟩ := open56 hc ht
   rw [Addr.add_addr] at e2 e3
   exact ⟨p, e1, e2, e3, e4, e5⟩)
  subst h1
  exact ⟨some a, al, cap, rfl, Nat.le_trans hl hm, fun i hi => ⟨a, rfl, h2 i hi⟩, hl, fun e => by cases e⟩
theorem openP {r : Reach} {base : Nat} {v : Value} {d : DataW H} {p : List MemPlace} (hv : Value.okWide Tryz.prog W r base 23 v) (h : DataW.Trod enc Tryz.prog W 0 (fun _ => true) true 23 v d p) :
  ∃ (o : Option Addr) (ps : List (Int × ByteArray)) (c : Nat), v = .slice o ps.length c ∧ ps.length ≤ 9223372036854775807 ∧ PcA W o ps := by
 obtain ⟨a0, len, cap, rfl⟩ := okWide_slice Tryz.underlying23 hv
 obtain ⟨fuel, hf⟩ := h
 obtain ⟨o, ps, c, h1, h2, h3, _⟩ := open51 hf
 have e : Value.slice a0 len cap = .slice o ps.length c := by simpa [Value.cells] using h1
 exact ⟨o, ps, c, e, h2, h3⟩
theorem openA {r : Reach} {base : Nat} {v : Value} {d : DataW H} {p : List MemPlace} (hv : Value.okWide Tryz.prog W r base 22 v) (h : DataW.Trod enc Tryz.prog W 0 (fun _ => true) true 22 v d p) :
  ∃ (o : Option Addr) (al : List Ac) (c : Nat), v = .slice o al.length c ∧ al.length ≤ 9223372036854775807 ∧ ActA W o al ∧ al.length ≤ c ∧ (o = none → c = 0 ∧ al.length = 0) := by
 obtain ⟨a0, len, cap, rfl⟩ := okWide_slice Tryz.underlying22 hv
 obtain ⟨fuel, hf⟩ := h
 obtain ⟨o, al, c, h1, h2⟩ := open22 hf
 have e : Value.slice a0 len cap = .slice o al.length c := by simpa [Value.cells] using h1
 exact ⟨o, al, c, e, h2⟩
end
end Go.Proofs.YtihfeoanognonaaGreat
