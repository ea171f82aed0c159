/-
 the law SignChecks: is a signature one.
-/
import Derived.Test.YtefjnfeckenmkaaGreatDoorSg4
import Derived.Test.YtefjnfeckenmkaaGreatDoorSgR
namespace Go.Proofs.YtefjnfeckenmkaaGreatDoor
set_option linter.unusedVariables false
set_option maxRecDepth 100000
set_option maxHeartbeats 2000000
open Go.RowKit Num
theorem checks_yes (p t g : ByteArray) (i1 : (∀ w, VA w → Calls Tryz.prog 10 #[.string p, .string t, .string g] w fun e w' => e = .returned (.bool true) ∧ Below w.heap.size w w')) (i2 : (∀ w, VA w → Calls Tryz.prog 11 #[.string p, .string t, .string g] w fun e w' => e = .returned (.bool true) ∧ Below w.heap.size w w')) (w : World) (VV : VA w) :
  Calls Tryz.prog 4 #[.string p, .string t, .string g] w fun e w' => e = .returned (.bool true) ∧ Below w.heap.size w w' := by
 have H0 := HA.start w
 go_enter Tryz.func4, Tryz.ntmps4
 refine zsr ?_
 refine zwv (.bool false) ?_
 refine znt ?_
 refine zsr ?_
 refine zwv (.string p) ?_
 refine zwv (.string t) ?_
 refine zwv (.string g) ?_
 refine zwc H0 ent10 (i1 w (VV.below H0.old VV.big)) ?_
 intro w1 h2
 refine zwv (.string p) ?_
 refine zwv (.string t) ?_
 refine zwv (.string g) ?_
 refine zwc h2 ent11 (i2 w1 (VV.below h2.old VV.big)) ?_
 intro w3 h4
 refine zwu (run_eqb true true (by kernel_rfl) (by kernel_rfl)) ?_
 refine zwv (.bool true) ?_
 refine zwc h4 ent9 (works_any w3 (VV.below h4.old VV.big)) ?_
 intro w5 h6
 refine zwv (.bool true) ?_
 refine zwv (.bool true) ?_
 refine znt ?_
 exact wp_ret (zb h6.old)
theorem checks_no (p t g : ByteArray) (i1 : (∀ w, VA w → Calls Tryz.prog 10 #[.string p, .string t, .string g] w fun e w' => e = .returned (.bool false) ∧ Below w.heap.size w w')) (i2 : (∀ w, VA w → Calls Tryz.prog 11 #[.string p, .string t, .string g] w fun e w' => e = .returned (.bool false) ∧ Below w.heap.size w w')) (w : World) (VV : VA w) :
  Calls Tryz.prog 4 #[.string p, .string t, .string g] w fun e w' => e = .returned (.bool true) ∧ Below w.heap.size w w' := by
 have H0 := HA.start w
 go_enter Tryz.func4, Tryz.ntmps4
 refine zsr ?_
 refine zwv (.bool false) ?_
 refine znt ?_
 refine zsr ?_
 refine zwv (.string p) ?_
 refine zwv (.string t) ?_
 refine zwv (.string g) ?_
 refine zwc H0 ent10 (i1 w (VV.below H0.old VV.big)) ?_
 intro w1 h2
 refine zwv (.string p) ?_
 refine zwv (.string t) ?_
 refine zwv (.string g) ?_
 refine zwc h2 ent11 (i2 w1 (VV.below h2.old VV.big)) ?_
 intro w3 h4
 refine zwu (run_eqb false false (by kernel_rfl) (by kernel_rfl)) ?_
 refine zwv (.bool true) ?_
 refine zwc h4 ent9 (works_any w3 (VV.below h4.old VV.big)) ?_
 intro w5 h6
 refine zwv (.bool true) ?_
 refine zwv (.bool true) ?_
 refine znt ?_
 exact wp_ret (zb h6.old)
theorem SignChecks_any (p : ByteArray) (hp : p.size ≤ 562949953421312) (t : ByteArray) (ht : t.size ≤ 562949953421312) (g : ByteArray) (_hg : g.size ≤ 562949953421312) (w : World) (VV : VA w) : Calls Tryz.prog 4 #[.string p, .string t, .string g] w fun e w' => e = .returned (.bool true) ∧ Below w.heap.size w w' := by
 by_cases h : verP p t g
 ·exact checks_yes p t g (fun w V => Verify_yes p t g hp ht h w V) (fun w _ => rVerify_yes p t g hp ht h w) w VV
 ·exact checks_no p t g (fun w V => Verify_no p t g hp ht h w V) (fun w _ => rVerify_no p t g hp ht h w) w VV
end Go.Proofs.YtefjnfeckenmkaaGreatDoor
