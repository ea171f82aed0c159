/- CallsKnown returns true: calls and answers of the chapter, their bytes, and what is none; there is no input and no condition. -/
import Derived.Test.YtiogegoepgkjlaaC19
import Derived.Test.YtiogegoepgkjlaaRows
import Derived.ProofKit
import Derived.OpenShut
import Derived.ShutString
import Derived.ChangeOld
import Derived.SizedLaws
namespace Go.Proofs.Ytiogegoepgkjlaa.callsKnown
open Go.ChangeShapes Go.WideShapes Go.ChangeAt Go.RowKit
open Go.ChangeMaps (open_string shut_string)

theorem known_row (w : World) : Calls Try.prog 6 #[] w fun e w' => e = .returned (.bool true) ∧ Below w.heap.size w w' := by
  obtain ⟨ztx, hz⟩ : ∃ ztx, zs 4097 = ztx := ⟨_, rfl⟩
  obtain ⟨cz, hc⟩ : ∃ cz, bc (List.replicate 4097 0) = cz := ⟨_, rfl⟩
  have hs : ztx.size = 4097 := by rw [← hz]; exact zs_size 4097
  obtain ⟨y, hy⟩ := kn_I hs
  exact known_core hc hz hs hy
theorem own : ownKnob Try.prog.godebug = none := by kernel_rfl

set_option maxRecDepth 100000 in
theorem lifted (os : Os) (started : os.Started) (H : Type) (enc : TypeId × Value → H) :
    ReturnsInHanded {} Try.checked os 6 .any (Rows.callsKnownSpec.pre6 enc Try.prog Try.f6 Rows.callsKnownRow.domain false) (Rows.callsKnownSpec.post enc Try.prog Try.f6 false true false false) := by
  refine returnsInHanded_of_change_sized (C := Try.checked) own started ky Try.func6
    (ChangeSpec.witness6 (enc := enc) (C := Try.checked) false ⟨#[], #[], []⟩ 8 ky ky ky ky) ?_
  intro W base args ds gs before _ hW _ _ _
  have hW' := hW
  obtain ⟨p, q, hA0, hV, rfl, hfz, hnd⟩ := hW
  have hA : DataW.TrodAll enc Try.prog W 0 (fun _ => true) true Try.f6.params.toList args.toList ds p := hA0
  rw [Try.params6] at hA
  obtain ⟨rfl, rfl, rfl⟩ := trodAll_none hA
  obtain ⟨rfl, rfl⟩ := trodVars_none hV
  clear hA0
  refine (known_row W).mono fun e W' ⟨he, bel⟩ => ?_
  subst he
  exact ⟨_, rfl, _, _, _, [], [], [], hW', trodAll_mk1 (shut_bool Try.underlying4 _), trodAll_mk0, rfl, bel.frame _, fun h => by cases h⟩

theorem over : Rows.callsKnownRow.holds Try.pinned (OpenSpec.ofChange Rows.callsKnownSpec) :=
  OpenClaim.holds_of_wide 6 Try.f6 rfl rfl rfl rfl rfl rfl rfl ⟨rfl, rfl, rfl, rfl, rfl⟩ rfl rfl rfl rfl rfl ky Try.func6 ky
    (of_decide_eq_true ky) (by unfold Func.isWrapper; first | (rw [if_pos (by decide +kernel)]; kernel_rfl) | (rw [if_neg (by decide +kernel)]; exact ⟨rfl, rfl⟩))
    (fun os started H enc _ => lifted os started H enc)

end Go.Proofs.Ytiogegoepgkjlaa.callsKnown
namespace Go.Proofs.Ytiogegoepgkjlaa

theorem callsKnown_holds : Rows.CallsKnownSaid := callsKnown.over
#print axioms callsKnown_holds
end Go.Proofs.Ytiogegoepgkjlaa
