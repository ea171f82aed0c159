/-
  A spot that is handed in, opened.
-/
import Derived.Test.YtmidladenidngaaC14
import Derived.ProofKit
import Derived.SizedLaws
import Derived.OpenShut
import Derived.Deep.Slices
import Derived.ChangeOld
namespace Go.Proofs.Ytmidladenidngaa
open Go.ChangeShapes Go.WideShapes Go.ChangeAt Go.RowKit Go.Deep

theorem cells56 : Try.prog.cellsOf 56 = 5 := by kernel_rfl
theorem u8_le {n : Int} (h : (Lit.int .u8 n).wf = true) : 0 ≤ n ∧ n ≤ 255 := by simpa [Lit.wf, IntKind.min, IntKind.max, IntKind.signed, IntKind.bits] using h
theorem u64_le {n : Int} (h : (Lit.int .u64 n).wf = true) : 0 ≤ n ∧ n ≤ 18446744073709551615 := by simpa [Lit.wf, IntKind.min, IntKind.max, IntKind.signed, IntKind.bits] using h
section
variable {H : Type} {enc : TypeId × Value → H} {W : World}
set_option maxRecDepth 100000 in
theorem openSp {r : Reach} {base : Nat} {v : Value} {d : DataW H} {p : List MemPlace} (hv : Value.okWide Try.prog W r base 56 v) (h : DataW.Trod enc Try.prog W 0 (fun _ => true) true 56 v d p) :
    ∃ x : Sp, v = .agg (spC x) ∧ x.k < 256 ∧ x.a < 256 ∧ x.b < 256 ∧ x.n < 18446744073709551616 ∧ ∃ d0 d1 d2 d3, d = .agg [d0, d1, d2, d3, .lit (.string x.s.data.toList)] := by
  obtain ⟨cs, rfl, hsz⟩ := okWide_struct Try.underlying56 hv
  rw [cells56] at hsz
  obtain ⟨fuel, hf⟩ := h
  obtain ⟨cl⟩ := cs
  have hsz : cl.length = 5 := by simpa using hsz
  have hf : DataW.trod enc Try.prog W 0 (fun _ => true) true fuel 56 cl = some (d, p) := by simpa [Value.cells] using hf
  obtain ⟨xs, k, _, hx, _, hxl, hg⟩ := DataW.trod_struct Try.underlying56 hf
  match cl, hsz with
  | [v0, v1, v2, v3, v4], _ =>
    match xs, hxl with
    | [y0, y1, y2, y3, y4], _ =>
      have g0 := hg 0 _ rfl
      have g0 : DataW.trod enc Try.prog W 0 (fun _ => true) true k 5 [v0] = some y0 := g0
      obtain ⟨z0, e0, _, b0⟩ := DataW.trod_int Try.underlying5 g0
      cases e0
      have g1 := hg 1 _ rfl
      have g1 : DataW.trod enc Try.prog W 0 (fun _ => true) true k 5 [v1] = some y1 := g1
      obtain ⟨z1, e1, _, b1⟩ := DataW.trod_int Try.underlying5 g1
      cases e1
      have g2 := hg 2 _ rfl
      have g2 : DataW.trod enc Try.prog W 0 (fun _ => true) true k 5 [v2] = some y2 := g2
      obtain ⟨z2, e2, _, b2⟩ := DataW.trod_int Try.underlying5 g2
      cases e2
      have g3 := hg 3 _ rfl
      have g3 : DataW.trod enc Try.prog W 0 (fun _ => true) true k 22 [v3] = some y3 := g3
      obtain ⟨z3, e3, _, b3⟩ := DataW.trod_int Try.underlying22 g3
      cases e3
      have g4 := hg 4 _ rfl
      have g4 : DataW.trod enc Try.prog W 0 (fun _ => true) true k 9 [v4] = some y4 := g4
      obtain ⟨z4, e4, hy4, _⟩ := DataW.trod_string Try.underlying9 g4
      cases e4
      have c0 := u8_le b0; have c1 := u8_le b1; have c2 := u8_le b2; have c3 := u64_le b3
      obtain ⟨n0, rfl⟩ := Int.eq_ofNat_of_zero_le c0.1
      obtain ⟨n1, rfl⟩ := Int.eq_ofNat_of_zero_le c1.1
      obtain ⟨n2, rfl⟩ := Int.eq_ofNat_of_zero_le c2.1
      obtain ⟨n3, rfl⟩ := Int.eq_ofNat_of_zero_le c3.1
      refine ⟨⟨n0, n1, n2, n3, z4⟩, rfl, by show n0 < 256; omega, by show n1 < 256; omega, by show n2 < 256; omega, by show n3 < 18446744073709551616; omega, y0.1, y1.1, y2.1, y3.1, ?_⟩
      have h1 := congrArg Prod.fst hx
      rw [hy4] at h1
      exact h1
theorem sized_sp {ts : List TypeId} {ds : List (DataW H)} (h : (DataW.weightsEach Try.prog ts ds).all (· ≤ reachBytes) = true) {j : Nat} (ht : ts[j]? = some 56) {d0 d1 d2 d3 : DataW H} {s : ByteArray} (hd : ds[j]? = some (.agg [d0, d1, d2, d3, .lit (.string s.data.toList)])) : s.size ≤ 140737488351232 := by
  have h2 := List.all_eq_true.1 h _ (DataW.weights_mem_each ht hd s.data.toList.length (by
    unfold DataW.weights
    rw [Try.underlying56]
    simp [DataW.weightsEach, DataW.weights]))
  have h3 : s.data.toList.length = s.size := Array.length_toList
  rw [h3] at h2
  have h4 : s.size ≤ reachBytes := of_decide_eq_true h2
  exact h4
end
end Go.Proofs.Ytmidladenidngaa
