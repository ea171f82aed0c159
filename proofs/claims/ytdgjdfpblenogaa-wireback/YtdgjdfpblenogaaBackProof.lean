/- WireBack, the theorem of layer 1, returns true for any things and any bytes behind: whatever numbers and texts are put one behind the other are read back just so, and nothing is left but what stands behind; there is no condition. -/
import Derived.Test.YtdgjdfpblenogaaBack
import Derived.ProofKit
import Derived.OpenShut
import Derived.ShutString
import Derived.ChangeOld
import Derived.Deep.Slices
import Derived.Deep.Strs
namespace Go.Proofs.Ytdgjdfpblenogaa.wireBack
open Go.ChangeShapes Go.WideShapes Go.ChangeAt Go.RowKit Go.Deep
open Go.ChangeMaps (open_string shut_string)

theorem own : ownKnob Try.prog.godebug = none := by kernel_rfl
theorem laidOut : laidOutB Try.prog = true := by kernel_rfl
theorem cells24 : Try.prog.cellsOf 24 = 3 := by kernel_rfl
theorem cells5 : Try.prog.cellsOf 5 = 1 := by kernel_rfl
theorem cells22 : Try.prog.cellsOf 22 = 1 := by kernel_rfl
theorem cells9 : Try.prog.cellsOf 9 = 1 := by kernel_rfl

/-- one thing's three cells -/
theorem one {H : Type} {enc : TypeId × Value → H} {W : World} {sp : Nat → Bool} {held : Bool} {n : Nat} {cs : List Value} {x : DataW H × List MemPlace} {a : Addr}
    (h1 : W.cells? 0 a 3 = some cs) (h2 : DataW.trod enc Try.prog W 0 sp held n 24 cs = some x) :
    ∃ t : Nat × Nat × ByteArray, (t.1 < 256 ∧ t.2.1 < 18446744073709551616 ∧ t.2.2.size ≤ 9223372036854775807) ∧ W.cell? (a.add 0) = some (.int .u8 t.1) ∧ W.cell? (a.add 1) = some (.int .u64 t.2.1) ∧ W.cell? (a.add 2) = some (.string t.2.2) := by
  obtain ⟨y0, y1, y2, m, _, hl, r0, r1, r2⟩ := trod_struct3 Try.underlying24 h2
  rw [cells24] at hl
  match cs, hl with
  | [c0, c1, c2], _ =>
    obtain ⟨z0, e0, _, w0⟩ := DataW.trod_int Try.underlying5 r0
    obtain ⟨z1, e1, _, w1⟩ := DataW.trod_int Try.underlying22 r1
    obtain ⟨s2, e2, _, w2⟩ := DataW.trod_string Try.underlying9 r2
    rw [cells5] at e0
    rw [cells22] at e1
    rw [cells9] at e2
    simp at e0 e1 e2
    subst e0 e1 e2
    have b0 : 0 ≤ z0 ∧ z0 ≤ 255 := by simpa [Lit.wf, IntKind.min, IntKind.max, IntKind.signed, IntKind.bits] using w0
    have b1 : 0 ≤ z1 ∧ z1 ≤ 18446744073709551615 := by simpa [Lit.wf, IntKind.min, IntKind.max, IntKind.signed, IntKind.bits] using w1
    obtain ⟨z0, rfl⟩ := Int.eq_ofNat_of_zero_le b0.1
    obtain ⟨z1, rfl⟩ := Int.eq_ofNat_of_zero_le b1.1
    unfold maxLen at w2
    have hc := (World.cells?_some h1).2.2
    refine ⟨(z0, z1, s2), ⟨by show z0 < 256; omega, by show z1 < 18446744073709551616; omega, by show s2.size ≤ _; omega⟩, ?_, ?_, ?_⟩
    · exact hc 0 (by decide)
    · exact hc 1 (by decide)
    · exact hc 2 (by decide)

theorem opened {H : Type} {enc : TypeId × Value → H} {W : World} {a0 : Option Addr} {len0 cap0 : Nat} {d : DataW H} {p : List MemPlace}
    (h0 : DataW.Trod enc Try.prog W 0 (fun _ => true) true 44 (.slice a0 len0 cap0) d p) : ∃ B N S, Things W a0 len0 B N S := by
  obtain ⟨fuel, hf⟩ := h0
  rcases open_slice Try.underlying44 hf with ⟨hcs, _⟩ | ⟨a, l, c, m, n, D, Pl, hcs, _, hl, hm, hmm, _, hx⟩
  · simp [Value.cells] at hcs
    obtain ⟨rfl, rfl, rfl⟩ := hcs
    exact ⟨fun _ => 0, fun _ => 0, fun _ => ByteArray.empty, by omega, fun i hi => absurd hi (Nat.not_lt_zero _), fun h => absurd h (Nat.not_lt_zero _)⟩
  · simp [Value.cells] at hcs
    obtain ⟨rfl, rfl, rfl⟩ := hcs
    simp only [if_true] at hmm
    subst hmm
    rw [cells24] at hx
    unfold maxLen at hm
    obtain ⟨f, hfx⟩ := choose_lt (α := Nat × Nat × ByteArray) (n := m) (p := fun i t => (t.1 < 256 ∧ t.2.1 < 18446744073709551616 ∧ t.2.2.size ≤ 9223372036854775807) ∧ W.cell? ((a.add (i * 3)).add 0) = some (.int .u8 t.1) ∧ W.cell? ((a.add (i * 3)).add 1) = some (.int .u64 t.2.1) ∧ W.cell? ((a.add (i * 3)).add 2) = some (.string t.2.2))
      (fun i hi => by
        obtain ⟨cs', h1, h2⟩ := hx i hi
        exact one h1 h2)
    refine ⟨fun i => (f i).1, fun i => (f i).2.1, fun i => (f i).2.2, by omega, fun i hi => (hfx i (by omega)).1, fun h => ?_⟩
    obtain ⟨b, off, spot⟩ := a
    have hc := (hfx 0 (by omega)).2.1
    have hspot : spot = none := by simpa [Addr.add] using World.cell?_spot hc
    subst hspot
    refine ⟨b, off, rfl, fun i hi => ?_⟩
    have := (hfx i (by omega)).2
    rw [Addr.add_lit, Addr.add_lit, Addr.add_lit, Addr.add_lit] at this
    exact this

set_option maxRecDepth 100000 in
theorem lifted (os : Os) (started : os.Started) (H : Type) (enc : TypeId × Value → H) :
    ReturnsInHanded {} Try.checked os 5 .any (Rows.wireBackSpec.pre6 enc Try.prog Try.f5 Rows.wireBackRow.domain false) (Rows.wireBackSpec.post enc Try.prog Try.f5 false true false false) := by
  refine returnsInHanded_of_change (C := Try.checked) own started (by kernel_rfl) Try.func5
    (ChangeSpec.witness6 (enc := enc) (C := Try.checked) false ⟨#[], #[.slice none 0 0, .string ByteArray.empty], []⟩ 8 (by kernel_rfl) (by kernel_rfl) (by kernel_rfl) (by kernel_rfl)) ?_
  intro W base args ds gs before hval0 hW _ _
  have hval : ∀ (j : Nat) t v, Try.f5.params[j]? = some t → args[j]? = some v → Value.okWide Try.prog W .any base t v := hval0
  have hW' := hW
  obtain ⟨p, q, hA0, hV, rfl, hfz, hnd⟩ := hW
  have hA : DataW.TrodAll enc Try.prog W 0 (fun _ => true) true Try.f5.params.toList args.toList ds p := hA0
  rw [Try.params5] at hA hval
  obtain ⟨v0, vs0, d0, ds0, p0, q0, hargs, rfl, rfl, h0, r0⟩ := trodAll_cons hA
  obtain ⟨v1, vs1, d1, ds1, p1, q1, rfl, rfl, rfl, h1, r1⟩ := trodAll_cons r0
  obtain ⟨rfl, rfl, rfl⟩ := trodAll_nil r1
  obtain rfl : args = #[v0, v1] := by cases args; simp_all
  obtain ⟨rfl, rfl⟩ := trodVars_none hV
  obtain ⟨a0, len0, cap0, rfl⟩ := okWide_slice Try.underlying44 (hval 0 44 v0 rfl rfl)
  have lt0 : ∀ x ∈ p0, x.block < W.heap.size := by obtain ⟨m, hm⟩ := h0; exact DataW.trod_lt m _ _ _ hm
  obtain ⟨B, N, S, w0⟩ := opened h0
  obtain ⟨s, rfl, rfl, rfl, hs⟩ := open_string Try.underlying9 (hval 1 9 v1 rfl rfl) h1
  clear hA0 hval0
  refine (back_true a0 len0 cap0 B N S s W w0 (by unfold maxLen at hs; omega)).mono fun e W' ⟨he, bel⟩ => ?_
  subst he
  exact ⟨_, rfl, _, _, _, [], _, [], hW', trodAll_mk1 (shut_bool Try.underlying4 _), (trodAll_cons_mk (Below.trod laidOut (by kernel_rfl) (of_decide_eq_true (by kernel_rfl)) h0 bel lt0) (trodAll_cons_mk (shut_string Try.underlying9 hs) trodAll_mk0)), rfl, bel.frame _, fun h => by cases h⟩

theorem over : Rows.wireBackRow.holds Try.pinned (OpenSpec.ofChange Rows.wireBackSpec) :=
  OpenClaim.holds_of_wide 5 Try.f5 rfl rfl rfl rfl rfl rfl rfl ⟨rfl, rfl, rfl, rfl, rfl⟩ rfl rfl rfl rfl rfl (by kernel_rfl) Try.func5 (by kernel_rfl)
    (of_decide_eq_true (by kernel_rfl)) (by unfold Func.isWrapper; first | (rw [if_pos (by decide +kernel)]; kernel_rfl) | (rw [if_neg (by decide +kernel)]; exact ⟨rfl, rfl⟩))
    (fun os started H enc _ => lifted os started H enc)

end Go.Proofs.Ytdgjdfpblenogaa.wireBack
namespace Go.Proofs.Ytdgjdfpblenogaa

theorem wireBack_holds : Rows.WireBackSaid := wireBack.over
#print axioms wireBack_holds
end Go.Proofs.Ytdgjdfpblenogaa
