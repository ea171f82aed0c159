/-
  A pair of calls that is handed in, opened.
-/
import Derived.Test.YtiogegoepgkjlaaGJ
import Derived.ProofKit
import Derived.SizedLaws
import Derived.OpenShut
import Derived.Deep.Slices
import Derived.ChangeOld
set_option maxRecDepth 100000
set_option linter.unusedVariables false
set_option linter.unusedSimpArgs false
namespace Go.Proofs.Ytiogegoepgkjlaa
open Go.ChangeShapes Go.WideShapes Go.ChangeAt Go.RowKit Go.Deep

theorem cons_of {α : Type} {l : List α} {n : Nat} (h : l.length = n + 1) : ∃ v t, l = v :: t ∧ t.length = n := by
  cases l with
  | nil => simp at h
  | cons v t => exact ⟨v, t, rfl, by simpa using h⟩
theorem exists_list {α : Type} (d : α) {P : Nat → α → Prop} : ∀ n, (∀ i, i < n → ∃ x, P i x) → ∃ l : List α, l.length = n ∧ ∀ i, i < n → P i (l.getD i d)
  | 0, _ => ⟨[], rfl, fun i hi => by omega⟩
  | n + 1, h => by
    obtain ⟨l, h1, h2⟩ := exists_list d n (fun i hi => h i (by omega))
    obtain ⟨x, hx⟩ := h n (by omega)
    refine ⟨l ++ [x], by simp [h1], fun i hi => ?_⟩
    by_cases e : i = n
    · subst e
      rw [List.getD_eq_getElem?_getD, List.getElem?_append_right (by omega), h1, Nat.sub_self]
      exact hx
    · have hi' : i < l.length := by omega
      rw [List.getD_eq_getElem?_getD, List.getElem?_append_left hi', ← List.getD_eq_getElem?_getD]
      exact h2 i (by omega)
theorem cells_67 : Try.prog.cellsOf 67 = 3 := by kernel_rfl
theorem cells_25 : Try.prog.cellsOf 25 = 5 := by kernel_rfl
theorem cells_27 : Try.prog.cellsOf 27 = 9 := by kernel_rfl
theorem At_ofM {W : World} {a : Addr} {ds : List Mb} (h : ∀ i, i < ds.length → ∀ j v, (mbC (ds.getD i mb0)).toList[j]? = some v → W.cell? ((a.add (i * 3)).add j) = some v) : At W (some a) (mcl ds) := fun j v hj => by
  have hlt : j < ds.length * 3 := by rw [← mcl_len]; exact (List.getElem?_eq_some_iff.1 hj).1
  have hi : j / 3 < ds.length := by omega
  have e : j / 3 * 3 + j % 3 = j := by omega
  refine ⟨a, rfl, ?_⟩
  have h2 := fm_at (fun x : Mb => [.int .i64 x.dv, .string x.sg, .string x.dh]) (fun _ => rfl) ds (gd_at mb0 hi) (Nat.mod_lt j (by decide : 0 < 3))
  rw [e] at h2
  have h3 := h (j / 3) hi (j % 3) v (h2.symm.trans hj)
  rw [add_two', e] at h3
  exact h3
section
variable {H : Type} {enc : TypeId × Value → H} {W : World}
theorem u64_lo {n : Int} (h : (Lit.int .u64 n).wf = true) : 0 ≤ n := by
  have : 0 ≤ n ∧ n ≤ 18446744073709551615 := by simpa [Lit.wf, IntKind.min, IntKind.max, IntKind.signed, IntKind.bits] using h
  exact this.1
theorem open_67 {n : Nat} {cs : List Value} {x : DataW H × List MemPlace} (h : DataW.trod enc Try.prog W 0 (fun _ => true) true n 67 cs = some x) :
    ∃ p : Mb, cs = (mbC p).toList := by
  obtain ⟨xs, k, _, _, hlen, hxl, hf⟩ := DataW.trod_struct Try.underlying67 h
  rw [cells_67] at hlen
  obtain ⟨v0, cs0, rfl, hn0⟩ := cons_of hlen
  obtain ⟨v1, cs1, rfl, hn1⟩ := cons_of hn0
  obtain ⟨v2, cs2, rfl, hn2⟩ := cons_of hn1
  obtain rfl := List.length_eq_zero_iff.1 hn2
  have hxl : xs.length = 3 := hxl
  obtain ⟨y0, xs0, rfl, hx0⟩ := cons_of hxl
  obtain ⟨y1, xs1, rfl, hx1⟩ := cons_of hx0
  obtain ⟨y2, xs2, rfl, hx2⟩ := cons_of hx1
  have g0 := hf 0 _ rfl
  have g0 : DataW.trod enc Try.prog W 0 (fun _ => true) true k 3 [v0] = some y0 := g0
  obtain ⟨z0, e0, _⟩ := DataW.trod_int Try.underlying3 g0
  cases e0
  have g1 := hf 1 _ rfl
  have g1 : DataW.trod enc Try.prog W 0 (fun _ => true) true k 9 [v1] = some y1 := g1
  obtain ⟨z1, e1, _⟩ := DataW.trod_string Try.underlying9 g1
  cases e1
  have g2 := hf 2 _ rfl
  have g2 : DataW.trod enc Try.prog W 0 (fun _ => true) true k 9 [v2] = some y2 := g2
  obtain ⟨z2, e2, _⟩ := DataW.trod_string Try.underlying9 g2
  cases e2
  exact ⟨⟨z0, z1, z2⟩, rfl⟩
theorem open_23 {n : Nat} {cs : List Value} {x : DataW H × List MemPlace} (h : DataW.trod enc Try.prog W 0 (fun _ => true) true n 23 cs = some x) :
    ∃ (o : Option Addr) (ds : List Mb) (c : Nat), cs = [.slice o ds.length c] ∧ At W o (mcl ds) ∧ ds.length ≤ c := by
  rcases open_slice Try.underlying23 h with ⟨rfl, _⟩ | ⟨a, len, cap, m, k, D, Pl, rfl, _, hl, hm, hmm, _, hx⟩
  · exact ⟨none, [], 0, rfl, At.nil W, Nat.le_refl _⟩
  · have hmc : m = cap := by rw [hmm]; rfl
    rw [cells_67] at hx
    obtain ⟨ds, h1, h2⟩ := exists_list mb0 (P := fun i (p : Mb) => ∀ j v, (mbC p).toList[j]? = some v → W.cell? ((a.add (i * 3)).add j) = some v) len (fun i hi => by
      obtain ⟨cs', hc, ht⟩ := hx i (by omega)
      obtain ⟨p, rfl⟩ := open_67 ht
      obtain ⟨_, _, hcell⟩ := World.cells?_some hc
      exact ⟨p, fun j v hj => by
        have hj3 : j < 3 := (List.getElem?_eq_some_iff.1 hj).1
        exact (hcell j hj3).trans hj⟩)
    subst h1
    exact ⟨some a, ds, cap, rfl, At_ofM h2, hl⟩
theorem open_25 {n : Nat} {cs : List Value} {x : DataW H × List MemPlace} (h : DataW.trod enc Try.prog W 0 (fun _ => true) true n 25 cs = some x) :
    ∃ (l : Li) (o : Option Addr) (c : Nat), cs = (liC l (.slice o l.ds.length c)).toList ∧ At W o (mcl l.ds) ∧ l.ds.length ≤ c := by
  obtain ⟨xs, k, _, _, hlen, hxl, hf⟩ := DataW.trod_struct Try.underlying25 h
  rw [cells_25] at hlen
  obtain ⟨v0, cs0, rfl, hn0⟩ := cons_of hlen
  obtain ⟨v1, cs1, rfl, hn1⟩ := cons_of hn0
  obtain ⟨v2, cs2, rfl, hn2⟩ := cons_of hn1
  obtain ⟨v3, cs3, rfl, hn3⟩ := cons_of hn2
  obtain ⟨v4, cs4, rfl, hn4⟩ := cons_of hn3
  obtain rfl := List.length_eq_zero_iff.1 hn4
  have hxl : xs.length = 5 := hxl
  obtain ⟨y0, xs0, rfl, hx0⟩ := cons_of hxl
  obtain ⟨y1, xs1, rfl, hx1⟩ := cons_of hx0
  obtain ⟨y2, xs2, rfl, hx2⟩ := cons_of hx1
  obtain ⟨y3, xs3, rfl, hx3⟩ := cons_of hx2
  obtain ⟨y4, xs4, rfl, hx4⟩ := cons_of hx3
  have g0 := hf 0 _ rfl
  have g0 : DataW.trod enc Try.prog W 0 (fun _ => true) true k 3 [v0] = some y0 := g0
  obtain ⟨z0, e0, _⟩ := DataW.trod_int Try.underlying3 g0
  cases e0
  have g1 := hf 1 _ rfl
  have g1 : DataW.trod enc Try.prog W 0 (fun _ => true) true k 3 [v1] = some y1 := g1
  obtain ⟨z1, e1, _⟩ := DataW.trod_int Try.underlying3 g1
  cases e1
  have g2 := hf 2 _ rfl
  have g2 : DataW.trod enc Try.prog W 0 (fun _ => true) true k 9 [v2] = some y2 := g2
  obtain ⟨z2, e2, _⟩ := DataW.trod_string Try.underlying9 g2
  cases e2
  have g3 := hf 3 _ rfl
  have g3 : DataW.trod enc Try.prog W 0 (fun _ => true) true k 23 [v3] = some y3 := g3
  obtain ⟨o3, ds3, c3, e3, ha3, hc3⟩ := open_23 g3
  cases e3
  have g4 := hf 4 _ rfl
  have g4 : DataW.trod enc Try.prog W 0 (fun _ => true) true k 9 [v4] = some y4 := g4
  obtain ⟨z4, e4, _⟩ := DataW.trod_string Try.underlying9 g4
  cases e4
  exact ⟨⟨z0, z1, z2, ds3, z4⟩, o3, c3, rfl, ha3, hc3⟩
theorem open_27 {n : Nat} {cs : List Value} {x : DataW H × List MemPlace} (h : DataW.trod enc Try.prog W 0 (fun _ => true) true n 27 cs = some x) :
    ∃ x : Bu, cs = (buC x).toList := by
  obtain ⟨xs, k, _, _, hlen, hxl, hf⟩ := DataW.trod_struct Try.underlying27 h
  rw [cells_27] at hlen
  obtain ⟨v0, cs0, rfl, hn0⟩ := cons_of hlen
  obtain ⟨v1, cs1, rfl, hn1⟩ := cons_of hn0
  obtain ⟨v2, cs2, rfl, hn2⟩ := cons_of hn1
  obtain ⟨v3, cs3, rfl, hn3⟩ := cons_of hn2
  obtain ⟨v4, cs4, rfl, hn4⟩ := cons_of hn3
  obtain ⟨v5, cs5, rfl, hn5⟩ := cons_of hn4
  obtain ⟨v6, cs6, rfl, hn6⟩ := cons_of hn5
  obtain ⟨v7, cs7, rfl, hn7⟩ := cons_of hn6
  obtain ⟨v8, cs8, rfl, hn8⟩ := cons_of hn7
  obtain rfl := List.length_eq_zero_iff.1 hn8
  have hxl : xs.length = 9 := hxl
  obtain ⟨y0, xs0, rfl, hx0⟩ := cons_of hxl
  obtain ⟨y1, xs1, rfl, hx1⟩ := cons_of hx0
  obtain ⟨y2, xs2, rfl, hx2⟩ := cons_of hx1
  obtain ⟨y3, xs3, rfl, hx3⟩ := cons_of hx2
  obtain ⟨y4, xs4, rfl, hx4⟩ := cons_of hx3
  obtain ⟨y5, xs5, rfl, hx5⟩ := cons_of hx4
  obtain ⟨y6, xs6, rfl, hx6⟩ := cons_of hx5
  obtain ⟨y7, xs7, rfl, hx7⟩ := cons_of hx6
  obtain ⟨y8, xs8, rfl, hx8⟩ := cons_of hx7
  have g0 := hf 0 _ rfl
  have g0 : DataW.trod enc Try.prog W 0 (fun _ => true) true k 3 [v0] = some y0 := g0
  obtain ⟨z0, e0, _⟩ := DataW.trod_int Try.underlying3 g0
  cases e0
  have g1 := hf 1 _ rfl
  have g1 : DataW.trod enc Try.prog W 0 (fun _ => true) true k 3 [v1] = some y1 := g1
  obtain ⟨z1, e1, _⟩ := DataW.trod_int Try.underlying3 g1
  cases e1
  have g2 := hf 2 _ rfl
  have g2 : DataW.trod enc Try.prog W 0 (fun _ => true) true k 9 [v2] = some y2 := g2
  obtain ⟨z2, e2, _⟩ := DataW.trod_string Try.underlying9 g2
  cases e2
  have g3 := hf 3 _ rfl
  have g3 : DataW.trod enc Try.prog W 0 (fun _ => true) true k 9 [v3] = some y3 := g3
  obtain ⟨z3, e3, _⟩ := DataW.trod_string Try.underlying9 g3
  cases e3
  have g4 := hf 4 _ rfl
  have g4 : DataW.trod enc Try.prog W 0 (fun _ => true) true k 3 [v4] = some y4 := g4
  obtain ⟨z4, e4, _⟩ := DataW.trod_int Try.underlying3 g4
  cases e4
  have g5 := hf 5 _ rfl
  have g5 : DataW.trod enc Try.prog W 0 (fun _ => true) true k 9 [v5] = some y5 := g5
  obtain ⟨z5, e5, _⟩ := DataW.trod_string Try.underlying9 g5
  cases e5
  have g6 := hf 6 _ rfl
  have g6 : DataW.trod enc Try.prog W 0 (fun _ => true) true k 9 [v6] = some y6 := g6
  obtain ⟨z6, e6, _⟩ := DataW.trod_string Try.underlying9 g6
  cases e6
  have g7 := hf 7 _ rfl
  have g7 : DataW.trod enc Try.prog W 0 (fun _ => true) true k 3 [v7] = some y7 := g7
  obtain ⟨z7, e7, _⟩ := DataW.trod_int Try.underlying3 g7
  cases e7
  have g8 := hf 8 _ rfl
  have g8 : DataW.trod enc Try.prog W 0 (fun _ => true) true k 9 [v8] = some y8 := g8
  obtain ⟨z8, e8, _⟩ := DataW.trod_string Try.underlying9 g8
  cases e8
  exact ⟨⟨z0, z1, z2, z3, z4, z5, z6, z7, z8⟩, rfl⟩
end
end Go.Proofs.Ytiogegoepgkjlaa

set_option maxRecDepth 100000
set_option linter.unusedVariables false
set_option linter.unusedSimpArgs false
namespace Go.Proofs.Ytiogegoepgkjlaa
open Go.ChangeShapes Go.WideShapes Go.ChangeAt Go.RowKit Go.Deep

theorem cells_62 : Try.prog.cellsOf 62 = 4 := by kernel_rfl
theorem cells_47 : Try.prog.cellsOf 47 = 18 := by kernel_rfl
theorem cells_48 : Try.prog.cellsOf 48 = 36 := by kernel_rfl
theorem At_ofI {W : World} {a : Addr} {ds : List It} (h : ∀ i, i < ds.length → ∀ j v, (itC (ds.getD i it0)).toList[j]? = some v → W.cell? ((a.add (i * 4)).add j) = some v) : At W (some a) (icl ds) := fun j v hj => by
  have hlt : j < ds.length * 4 := by rw [← icl_len]; exact (List.getElem?_eq_some_iff.1 hj).1
  have hi : j / 4 < ds.length := by omega
  have e : j / 4 * 4 + j % 4 = j := by omega
  refine ⟨a, rfl, ?_⟩
  have h2 := fm_at (fun x : It => [iN .u64 x.n, .int .i64 x.f, iN .u64 x.o, .string x.b]) (fun _ => rfl) ds (gd_at it0 hi) (Nat.mod_lt j (by decide : 0 < 4))
  rw [e] at h2
  have h3 := h (j / 4) hi (j % 4) v (h2.symm.trans hj)
  rw [add_two', e] at h3
  exact h3
section
variable {H : Type} {enc : TypeId × Value → H} {W : World}
theorem open_62 {n : Nat} {cs : List Value} {x : DataW H × List MemPlace} (h : DataW.trod enc Try.prog W 0 (fun _ => true) true n 62 cs = some x) :
    ∃ p : It, cs = (itC p).toList := by
  obtain ⟨xs, k, _, _, hlen, hxl, hf⟩ := DataW.trod_struct Try.underlying62 h
  rw [cells_62] at hlen
  obtain ⟨v0, cs0, rfl, hn0⟩ := cons_of hlen
  obtain ⟨v1, cs1, rfl, hn1⟩ := cons_of hn0
  obtain ⟨v2, cs2, rfl, hn2⟩ := cons_of hn1
  obtain ⟨v3, cs3, rfl, hn3⟩ := cons_of hn2
  obtain rfl := List.length_eq_zero_iff.1 hn3
  have hxl : xs.length = 4 := hxl
  obtain ⟨y0, xs0, rfl, hx0⟩ := cons_of hxl
  obtain ⟨y1, xs1, rfl, hx1⟩ := cons_of hx0
  obtain ⟨y2, xs2, rfl, hx2⟩ := cons_of hx1
  obtain ⟨y3, xs3, rfl, hx3⟩ := cons_of hx2
  have g0 := hf 0 _ rfl
  have g0 : DataW.trod enc Try.prog W 0 (fun _ => true) true k 22 [v0] = some y0 := g0
  obtain ⟨u0, e0, _, b0⟩ := DataW.trod_int Try.underlying22 g0
  cases e0
  obtain ⟨z0, rfl⟩ := Int.eq_ofNat_of_zero_le (u64_lo b0)
  have g1 := hf 1 _ rfl
  have g1 : DataW.trod enc Try.prog W 0 (fun _ => true) true k 3 [v1] = some y1 := g1
  obtain ⟨z1, e1, _⟩ := DataW.trod_int Try.underlying3 g1
  cases e1
  have g2 := hf 2 _ rfl
  have g2 : DataW.trod enc Try.prog W 0 (fun _ => true) true k 22 [v2] = some y2 := g2
  obtain ⟨u2, e2, _, b2⟩ := DataW.trod_int Try.underlying22 g2
  cases e2
  obtain ⟨z2, rfl⟩ := Int.eq_ofNat_of_zero_le (u64_lo b2)
  have g3 := hf 3 _ rfl
  have g3 : DataW.trod enc Try.prog W 0 (fun _ => true) true k 9 [v3] = some y3 := g3
  obtain ⟨z3, e3, _⟩ := DataW.trod_string Try.underlying9 g3
  cases e3
  exact ⟨⟨z0, z1, z2, z3⟩, rfl⟩
theorem open_45 {n : Nat} {cs : List Value} {x : DataW H × List MemPlace} (h : DataW.trod enc Try.prog W 0 (fun _ => true) true n 45 cs = some x) :
    ∃ (o : Option Addr) (ds : List It) (c : Nat), cs = [.slice o ds.length c] ∧ At W o (icl ds) ∧ ds.length ≤ c := by
  rcases open_slice Try.underlying45 h with ⟨rfl, _⟩ | ⟨a, len, cap, m, k, D, Pl, rfl, _, hl, hm, hmm, _, hx⟩
  · exact ⟨none, [], 0, rfl, At.nil W, Nat.le_refl _⟩
  · have hmc : m = cap := by rw [hmm]; rfl
    rw [cells_62] at hx
    obtain ⟨ds, h1, h2⟩ := exists_list it0 (P := fun i (p : It) => ∀ j v, (itC p).toList[j]? = some v → W.cell? ((a.add (i * 4)).add j) = some v) len (fun i hi => by
      obtain ⟨cs', hc, ht⟩ := hx i (by omega)
      obtain ⟨p, rfl⟩ := open_62 ht
      obtain ⟨_, _, hcell⟩ := World.cells?_some hc
      exact ⟨p, fun j v hj => by
        have hj3 : j < 4 := (List.getElem?_eq_some_iff.1 hj).1
        exact (hcell j hj3).trans hj⟩)
    subst h1
    exact ⟨some a, ds, cap, rfl, At_ofI h2, hl⟩
theorem open_47 {n : Nat} {cs : List Value} {x : DataW H × List MemPlace} (h : DataW.trod enc Try.prog W 0 (fun _ => true) true n 47 cs = some x) :
    ∃ (c : An) (o p : Option Addr) (k m : Nat), cs = (anC c (.slice o c.li.ds.length k) (.slice p c.its.length m)).toList ∧ At W o (mcl c.li.ds) ∧ At W p (icl c.its) ∧ c.li.ds.length ≤ k ∧ c.its.length ≤ m := by
  obtain ⟨xs, k, _, _, hlen, hxl, hf⟩ := DataW.trod_struct Try.underlying47 h
  rw [cells_47] at hlen
  obtain ⟨v0, cs0, rfl, hn0⟩ := cons_of hlen
  obtain ⟨v1, cs1, rfl, hn1⟩ := cons_of hn0
  obtain ⟨v2, cs2, rfl, hn2⟩ := cons_of hn1
  obtain ⟨v3, cs3, rfl, hn3⟩ := cons_of hn2
  obtain ⟨v4, cs4, rfl, hn4⟩ := cons_of hn3
  obtain ⟨v5, cs5, rfl, hn5⟩ := cons_of hn4
  obtain ⟨v6, cs6, rfl, hn6⟩ := cons_of hn5
  obtain ⟨v7, cs7, rfl, hn7⟩ := cons_of hn6
  obtain ⟨v8, cs8, rfl, hn8⟩ := cons_of hn7
  obtain ⟨v9, cs9, rfl, hn9⟩ := cons_of hn8
  obtain ⟨v10, cs10, rfl, hn10⟩ := cons_of hn9
  obtain ⟨v11, cs11, rfl, hn11⟩ := cons_of hn10
  obtain ⟨v12, cs12, rfl, hn12⟩ := cons_of hn11
  obtain ⟨v13, cs13, rfl, hn13⟩ := cons_of hn12
  obtain ⟨v14, cs14, rfl, hn14⟩ := cons_of hn13
  obtain ⟨v15, cs15, rfl, hn15⟩ := cons_of hn14
  obtain ⟨v16, cs16, rfl, hn16⟩ := cons_of hn15
  obtain ⟨v17, cs17, rfl, hn17⟩ := cons_of hn16
  obtain rfl := List.length_eq_zero_iff.1 hn17
  have hxl : xs.length = 6 := hxl
  obtain ⟨y0, xs0, rfl, hx0⟩ := cons_of hxl
  obtain ⟨y1, xs1, rfl, hx1⟩ := cons_of hx0
  obtain ⟨y2, xs2, rfl, hx2⟩ := cons_of hx1
  obtain ⟨y3, xs3, rfl, hx3⟩ := cons_of hx2
  obtain ⟨y4, xs4, rfl, hx4⟩ := cons_of hx3
  obtain ⟨y5, xs5, rfl, hx5⟩ := cons_of hx4
  have g0 := hf 0 _ rfl
  have g0 : DataW.trod enc Try.prog W 0 (fun _ => true) true k 33 [v0] = some y0 := g0
  obtain ⟨z0, e0, _⟩ := DataW.trod_int Try.underlying33 g0
  cases e0
  have g1 := hf 1 _ rfl
  have g1 : DataW.trod enc Try.prog W 0 (fun _ => true) true k 25 [v1, v2, v3, v4, v5] = some y1 := g1
  obtain ⟨l1, o1, c1, e1, ha1, hc1⟩ := open_25 g1
  cases e1
  have g2 := hf 2 _ rfl
  have g2 : DataW.trod enc Try.prog W 0 (fun _ => true) true k 27 [v6, v7, v8, v9, v10, v11, v12, v13, v14] = some y2 := g2
  obtain ⟨b2, e2⟩ := open_27 g2
  cases e2
  have g3 := hf 3 _ rfl
  have g3 : DataW.trod enc Try.prog W 0 (fun _ => true) true k 45 [v15] = some y3 := g3
  obtain ⟨o3, ds3, c3, e3, ha3, hc3⟩ := open_45 g3
  cases e3
  have g4 := hf 4 _ rfl
  have g4 : DataW.trod enc Try.prog W 0 (fun _ => true) true k 9 [v16] = some y4 := g4
  obtain ⟨z4, e4, _⟩ := DataW.trod_string Try.underlying9 g4
  cases e4
  have g5 := hf 5 _ rfl
  have g5 : DataW.trod enc Try.prog W 0 (fun _ => true) true k 3 [v17] = some y5 := g5
  obtain ⟨z5, e5, _⟩ := DataW.trod_int Try.underlying3 g5
  cases e5
  exact ⟨⟨z0, l1, b2, ds3, z4, z5⟩, o1, o3, c1, c3, rfl, ha1, ha3, hc1, hc3⟩
theorem open_48 {r : Reach} {base : Nat} {v : Value} {d : DataW H} {p : List MemPlace} (hv : Value.okWide Try.prog W r base 48 v) (h : DataW.Trod enc Try.prog W 0 (fun _ => true) true 48 v d p) :
    ∃ (x y : An) (o1 p1 o2 p2 : Option Addr) (k1 m1 k2 m2 : Nat), v = .agg (anC x (.slice o1 x.li.ds.length k1) (.slice p1 x.its.length m1) ++ anC y (.slice o2 y.li.ds.length k2) (.slice p2 y.its.length m2)) ∧ (At W o1 (mcl x.li.ds) ∧ At W p1 (icl x.its) ∧ x.li.ds.length ≤ k1 ∧ x.its.length ≤ m1) ∧ At W o2 (mcl y.li.ds) ∧ At W p2 (icl y.its) ∧ y.li.ds.length ≤ k2 ∧ y.its.length ≤ m2 := by
  obtain ⟨cs, rfl, hsz⟩ : ∃ cs, v = .agg cs ∧ cs.size = 36 := by
    simp only [Value.okWide, Try.underlying48] at hv
    obtain ⟨cs, h1, h2, _⟩ := hv
    exact ⟨cs, h1, by rw [h2, cells_48]⟩
  obtain ⟨fuel, hf⟩ := h
  obtain ⟨cl⟩ := cs
  have hsz : cl.length = 36 := by simpa using hsz
  have hf : DataW.trod enc Try.prog W 0 (fun _ => true) true fuel 48 cl = some (d, p) := by simpa [Value.cells] using hf
  obtain ⟨xs, k, _, _, hl, hxl, hg⟩ := DataW.trod_array Try.underlying48 hf
  have hxl : xs.length = 2 := hxl
  obtain ⟨y0, xs, rfl, hx0⟩ := cons_of hxl
  obtain ⟨y1, xs, rfl, hx1⟩ := cons_of hx0
  have g0 := hg 0 (by decide)
  have g1 := hg 1 (by decide)
  rw [cells_47] at g0 g1
  obtain ⟨x, o1, p1, k1, m1, e0, A0⟩ := open_47 g0
  obtain ⟨y, o2, p2, k2, m2, e1, A1⟩ := open_47 g1
  refine ⟨x, y, o1, p1, o2, p2, k1, m1, k2, m2, ?_, A0, A1⟩
  have e : cl = (cl.drop (0 * 18)).take 18 ++ (cl.drop (1 * 18)).take 18 := by
    rw [Nat.zero_mul, Nat.one_mul, List.drop_zero]
    rw [List.take_of_length_le (l := cl.drop 18) (by rw [List.length_drop]; omega), List.take_append_drop]
  rw [e0, e1] at e
  subst e
  refine congrArg Value.agg (Array.ext' ?_)
  rw [Array.toList_append]
end
end Go.Proofs.Ytiogegoepgkjlaa
