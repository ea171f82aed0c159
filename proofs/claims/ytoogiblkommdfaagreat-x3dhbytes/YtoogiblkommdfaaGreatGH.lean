/-
  A bundle that is handed in, opened.
-/
import Derived.Test.YtoogiblkommdfaaGreatX10
import Derived.ProofKit
import Derived.OpenShut
import Derived.Deep.Slices
import Derived.ChangeOld
import Derived.SizedLaws
import Derived.ShutString
namespace Go.Proofs.YtoogiblkommdfaaGreat
open Go.ChangeShapes Go.WideShapes Go.ChangeAt Go.RowKit Go.Deep

theorem cells23 : Tryz.prog.cellsOf 23 = 9 := by kernel_rfl
section
variable {H : Type} {enc : TypeId × Value → H} {W : World}
set_option maxRecDepth 100000 in
theorem openB {r : Reach} {base : Nat} {v : Value} {d : DataW H} {p : List MemPlace} (hv : Value.okWide Tryz.prog W r base 23 v) (h : DataW.Trod enc Tryz.prog W 0 (fun _ => true) true 23 v d p) : ∃ x : Bu, v = .agg (buC x) := by
  obtain ⟨cs, rfl, hsz⟩ := okWide_struct Tryz.underlying23 hv
  rw [cells23] at hsz
  obtain ⟨fuel, hf⟩ := h
  obtain ⟨cl⟩ := cs
  have hsz : cl.length = 9 := by simpa using hsz
  have hf : DataW.trod enc Tryz.prog W 0 (fun _ => true) true fuel 23 cl = some (d, p) := by simpa [Value.cells] using hf
  obtain ⟨xs, k, _, _, _, hxl, hg⟩ := DataW.trod_struct Tryz.underlying23 hf
  match cl, hsz with
  | [v0, v1, v2, v3, v4, v5, v6, v7, v8], _ =>
    match xs, hxl with
    | [y0, y1, y2, y3, y4, y5, y6, y7, y8], _ =>
      have g0 := hg 0 _ rfl
      have g0 : DataW.trod enc Tryz.prog W 0 (fun _ => true) true k 3 [v0] = some y0 := g0
      obtain ⟨z0, e0, _⟩ := DataW.trod_int Tryz.underlying3 g0
      cases e0
      have g1 := hg 1 _ rfl
      have g1 : DataW.trod enc Tryz.prog W 0 (fun _ => true) true k 3 [v1] = some y1 := g1
      obtain ⟨z1, e1, _⟩ := DataW.trod_int Tryz.underlying3 g1
      cases e1
      have g2 := hg 2 _ rfl
      have g2 : DataW.trod enc Tryz.prog W 0 (fun _ => true) true k 9 [v2] = some y2 := g2
      obtain ⟨z2, e2, _⟩ := DataW.trod_string Tryz.underlying9 g2
      cases e2
      have g3 := hg 3 _ rfl
      have g3 : DataW.trod enc Tryz.prog W 0 (fun _ => true) true k 9 [v3] = some y3 := g3
      obtain ⟨z3, e3, _⟩ := DataW.trod_string Tryz.underlying9 g3
      cases e3
      have g4 := hg 4 _ rfl
      have g4 : DataW.trod enc Tryz.prog W 0 (fun _ => true) true k 3 [v4] = some y4 := g4
      obtain ⟨z4, e4, _⟩ := DataW.trod_int Tryz.underlying3 g4
      cases e4
      have g5 := hg 5 _ rfl
      have g5 : DataW.trod enc Tryz.prog W 0 (fun _ => true) true k 9 [v5] = some y5 := g5
      obtain ⟨z5, e5, _⟩ := DataW.trod_string Tryz.underlying9 g5
      cases e5
      have g6 := hg 6 _ rfl
      have g6 : DataW.trod enc Tryz.prog W 0 (fun _ => true) true k 9 [v6] = some y6 := g6
      obtain ⟨z6, e6, _⟩ := DataW.trod_string Tryz.underlying9 g6
      cases e6
      have g7 := hg 7 _ rfl
      have g7 : DataW.trod enc Tryz.prog W 0 (fun _ => true) true k 3 [v7] = some y7 := g7
      obtain ⟨z7, e7, _⟩ := DataW.trod_int Tryz.underlying3 g7
      cases e7
      have g8 := hg 8 _ rfl
      have g8 : DataW.trod enc Tryz.prog W 0 (fun _ => true) true k 9 [v8] = some y8 := g8
      obtain ⟨z8, e8, _⟩ := DataW.trod_string Tryz.underlying9 g8
      cases e8
      exact ⟨⟨z0, z1, z2, z3, z4, z5, z6, z7, z8⟩, rfl⟩
end
end Go.Proofs.YtoogiblkommdfaaGreat

namespace Go.Proofs.YtoogiblkommdfaaGreat.x3dhBytes
open Go.ChangeShapes Go.WideShapes Go.ChangeAt Go.RowKit
open Go.ChangeMaps (open_string shut_string)

theorem own : ownKnob Tryz.prog.godebug = none := by kernel_rfl
theorem laidOut : laidOutB Tryz.prog = true := by kernel_rfl

set_option maxRecDepth 100000 in
theorem lifted (os : Os) (started : os.Started) (H : Type) (enc : TypeId × Value → H) :
    ReturnsInHanded {} Tryz.checked os 3 .any (Rows.x3dhBytesSpec.pre6 enc Tryz.prog Tryz.f3 Rows.x3dhBytesRow.domain false) (Rows.x3dhBytesSpec.post enc Tryz.prog Tryz.f3 false true false false) := by
  refine returnsInHanded_of_change_sized (C := Tryz.checked) own started ky Tryz.func3
    (ChangeSpec.witness6 (enc := enc) (C := Tryz.checked) false ⟨#[], #[.agg #[.int .i64 0, .int .i64 0, .string ByteArray.empty, .string ByteArray.empty, .int .i64 0, .string ByteArray.empty, .string ByteArray.empty, .int .i64 0, .string ByteArray.empty], .string ByteArray.empty], []⟩ 8 ky ky ky ky) ?_
  intro W base args ds gs before hval0 hW _ hwt _
  have hval : ∀ (j : Nat) t v, Tryz.f3.params[j]? = some t → args[j]? = some v → Value.okWide Tryz.prog W .any base t v := hval0
  have hW' := hW
  obtain ⟨p, q, hA0, hV, rfl, hfz, hnd⟩ := hW
  have hA : DataW.TrodAll enc Tryz.prog W 0 (fun _ => true) true Tryz.f3.params.toList args.toList ds p := hA0
  rw [Tryz.params3] at hA hval
  obtain ⟨v0, vs0, d0, ds0, p0, q0, hargs, rfl, rfl, h0, r0⟩ := trodAll_cons hA
  obtain ⟨v1, vs1, d1, ds1, p1, q1, rfl, rfl, rfl, h1, r1⟩ := trodAll_cons r0
  obtain ⟨rfl, rfl, rfl⟩ := trodAll_nil r1
  obtain rfl : args = #[v0, v1] := by cases args; simp_all
  obtain ⟨rfl, rfl⟩ := trodVars_none hV
  have lt0 : ∀ x ∈ p0, x.block < W.heap.size := by obtain ⟨m, hm⟩ := h0; exact DataW.trod_lt m _ _ _ hm
  obtain ⟨x0, rfl⟩ := openB (hval 0 23 v0 rfl rfl) h0
  obtain ⟨s1, rfl, rfl, rfl, hs1⟩ := open_string Tryz.underlying9 (hval 1 9 v1 rfl rfl) h1
  have sz1 : s1.size ≤ 140737488351232 := by
    have h := sized_string hwt (j := 1) (t := 9) (bytes := s1.data.toList) ky (by rfl)
    rw [Array.length_toList] at h
    exact h
  clear hA0 hval0 hwt
  refine (bytesL x0 s1 sz1 ).mono fun e W' ⟨he, bel⟩ => ?_
  subst he
  exact ⟨_, rfl, _, _, _, [], _, [], hW', trodAll_mk1 (shut_bool Tryz.underlying4 _), (trodAll_cons_mk (Below.trod laidOut ky (of_decide_eq_true ky) h0 bel lt0) (trodAll_cons_mk (shut_string Tryz.underlying9 hs1) trodAll_mk0)), rfl, bel.frame _, fun h => by cases h⟩

theorem over : Rows.x3dhBytesRow.holds Tryz.pinned (OpenSpec.ofChange Rows.x3dhBytesSpec) :=
  OpenClaim.holds_of_wide 3 Tryz.f3 rfl rfl rfl rfl rfl rfl rfl ⟨rfl, rfl, rfl, rfl, rfl⟩ rfl rfl rfl rfl rfl ky Tryz.func3 ky
    (of_decide_eq_true ky) (by unfold Func.isWrapper; first | (rw [if_pos (by decide +kernel)]; kernel_rfl) | (rw [if_neg (by decide +kernel)]; exact ⟨rfl, rfl⟩))
    (fun os started H enc _ => lifted os started H enc)

end Go.Proofs.YtoogiblkommdfaaGreat.x3dhBytes
namespace Go.Proofs.YtoogiblkommdfaaGreat

theorem x3dhBytes_holds : Rows.X3dhBytesSaid := x3dhBytes.over
#print axioms x3dhBytes_holds
end Go.Proofs.YtoogiblkommdfaaGreat
