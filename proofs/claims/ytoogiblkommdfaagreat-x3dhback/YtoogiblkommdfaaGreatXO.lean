/-
  A bundle that is handed in, opened.
-/
import Derived.Test.YtoogiblkommdfaaGreatX10
import Derived.ProofKit
import Derived.OpenShut
import Derived.Deep.Slices
import Derived.ChangeOld
namespace Go.Proofs.YtoogiblkommdfaaGreat
open Go.ChangeShapes Go.WideShapes Go.ChangeAt Go.RowKit Go.Deep

theorem cells23 : Tryz.prog.cellsOf 23 = 9 := by kernel_rfl
section
variable {H : Type} {enc : TypeId × Value → H} {W : World}
set_option maxRecDepth 100000 in
theorem openB {r : Reach} {base : Nat} {v : Value} {d : DataW H} {p : List MemPlace} (hv : Value.okWide Tryz.prog W r base 23 v) (h : DataW.Trod enc Tryz.prog W 0 (fun _ => true) true 23 v d p) : ∃ x : Bu, v = .agg (buC x) := by
  obtain ⟨cs, rfl, hsz⟩ := okWide_struct Tryz.underlying23 hv
  rw [cells23] at hsz
  obtain ⟨fuel, hf⟩ := h
  obtain ⟨cl⟩ := cs
  have hsz : cl.length = 9 := by simpa using hsz
  have hf : DataW.trod enc Tryz.prog W 0 (fun _ => true) true fuel 23 cl = some (d, p) := by simpa [Value.cells] using hf
  obtain ⟨xs, k, _, _, _, hxl, hg⟩ := DataW.trod_struct Tryz.underlying23 hf
  match cl, hsz with
  | [v0, v1, v2, v3, v4, v5, v6, v7, v8], _ =>
    match xs, hxl with
    | [y0, y1, y2, y3, y4, y5, y6, y7, y8], _ =>
      have g0 := hg 0 _ rfl
      have g0 : DataW.trod enc Tryz.prog W 0 (fun _ => true) true k 3 [v0] = some y0 := g0
      obtain ⟨z0, e0, _⟩ := DataW.trod_int Tryz.underlying3 g0
      cases e0
      have g1 := hg 1 _ rfl
      have g1 : DataW.trod enc Tryz.prog W 0 (fun _ => true) true k 3 [v1] = some y1 := g1
      obtain ⟨z1, e1, _⟩ := DataW.trod_int Tryz.underlying3 g1
      cases e1
      have g2 := hg 2 _ rfl
      have g2 : DataW.trod enc Tryz.prog W 0 (fun _ => true) true k 9 [v2] = some y2 := g2
      obtain ⟨z2, e2, _⟩ := DataW.trod_string Tryz.underlying9 g2
      cases e2
      have g3 := hg 3 _ rfl
      have g3 : DataW.trod enc Tryz.prog W 0 (fun _ => true) true k 9 [v3] = some y3 := g3
      obtain ⟨z3, e3, _⟩ := DataW.trod_string Tryz.underlying9 g3
      cases e3
      have g4 := hg 4 _ rfl
      have g4 : DataW.trod enc Tryz.prog W 0 (fun _ => true) true k 3 [v4] = some y4 := g4
      obtain ⟨z4, e4, _⟩ := DataW.trod_int Tryz.underlying3 g4
      cases e4
      have g5 := hg 5 _ rfl
      have g5 : DataW.trod enc Tryz.prog W 0 (fun _ => true) true k 9 [v5] = some y5 := g5
      obtain ⟨z5, e5, _⟩ := DataW.trod_string Tryz.underlying9 g5
      cases e5
      have g6 := hg 6 _ rfl
      have g6 : DataW.trod enc Tryz.prog W 0 (fun _ => true) true k 9 [v6] = some y6 := g6
      obtain ⟨z6, e6, _⟩ := DataW.trod_string Tryz.underlying9 g6
      cases e6
      have g7 := hg 7 _ rfl
      have g7 : DataW.trod enc Tryz.prog W 0 (fun _ => true) true k 3 [v7] = some y7 := g7
      obtain ⟨z7, e7, _⟩ := DataW.trod_int Tryz.underlying3 g7
      cases e7
      have g8 := hg 8 _ rfl
      have g8 : DataW.trod enc Tryz.prog W 0 (fun _ => true) true k 9 [v8] = some y8 := g8
      obtain ⟨z8, e8, _⟩ := DataW.trod_string Tryz.underlying9 g8
      cases e8
      exact ⟨⟨z0, z1, z2, z3, z4, z5, z6, z7, z8⟩, rfl⟩
end
end Go.Proofs.YtoogiblkommdfaaGreat
