/-
 the law SignMakes: the public key of a seed, and its signature of a text.
-/
import Derived.Test.YtefjnfeckenmkaaGreatDoorSg4
import Derived.Test.YtefjnfeckenmkaaGreatDoorSgR
namespace Go.Proofs.YtefjnfeckenmkaaGreatDoor
set_option linter.unusedVariables false
set_option maxRecDepth 100000
set_option maxHeartbeats 2000000
open Go.RowKit Num
theorem makes_core (s t p g : ByteArray) (c : Nat) (i1 : (∀ w, VA w → Calls Tryz.prog 5 #[.string s] w fun e w' => e = .returned (.tuple #[.string p, iN .i64 c]) ∧ Below w.heap.size w w')) (i2 : (∀ w, VA w → Calls Tryz.prog 6 #[.string s] w fun e w' => e = .returned (.tuple #[.string p, iN .i64 c]) ∧ Below w.heap.size w w')) (i3 : (∀ w, VA w → Calls Tryz.prog 7 #[.string s, .string t] w fun e w' => e = .returned (.tuple #[.string g, iN .i64 c]) ∧ Below w.heap.size w w')) (i4 : (∀ w, VA w → Calls Tryz.prog 8 #[.string s, .string t] w fun e w' => e = .returned (.tuple #[.string g, iN .i64 c]) ∧ Below w.heap.size w w')) (w : World) (VV : VA w) :
  Calls Tryz.prog 3 #[.string s, .string t] w fun e w' => e = .returned (.bool true) ∧ Below w.heap.size w w' := by
 have H0 := HA.start w
 go_enter Tryz.func3, Tryz.ntmps3
 refine zsr ?_
 refine zwv (.bool false) ?_
 refine znt ?_
 refine zsr ?_
 refine zwv (.string s) ?_
 refine zwc H0 ent5 (i1 w (VV.below H0.old VV.big)) ?_
 intro w1 h2
 refine zwv (.tuple #[.string p, iN .i64 c]) ?_
 refine zwv (.string p) ?_
 refine zwv (iN .i64 c) ?_
 refine zwv (.string p) ?_
 refine zwv (iN .i64 c) ?_
 refine znt ?_
 refine zsr ?_
 refine zwv (.string s) ?_
 refine zwc h2 ent6 (i2 w1 (VV.below h2.old VV.big)) ?_
 intro w3 h4
 refine zwv (.tuple #[.string p, iN .i64 c]) ?_
 refine zwv (.string p) ?_
 refine zwv (iN .i64 c) ?_
 refine zwv (.string p) ?_
 refine zwv (iN .i64 c) ?_
 refine znt ?_
 refine zsr ?_
 refine zwv (.string s) ?_
 refine zwv (.string t) ?_
 refine zwc h4 ent7 (i3 w3 (VV.below h4.old VV.big)) ?_
 intro w5 h6
 refine zwv (.tuple #[.string g, iN .i64 c]) ?_
 refine zwv (.string g) ?_
 refine zwv (iN .i64 c) ?_
 refine zwv (.string g) ?_
 refine zwv (iN .i64 c) ?_
 refine znt ?_
 refine zsr ?_
 refine zwv (.string s) ?_
 refine zwv (.string t) ?_
 refine zwc h6 ent8 (i4 w5 (VV.below h6.old VV.big)) ?_
 intro w7 h8
 refine zwv (.tuple #[.string g, iN .i64 c]) ?_
 refine zwv (.string g) ?_
 refine zwv (iN .i64 c) ?_
 refine zwv (.string g) ?_
 refine zwv (iN .i64 c) ?_
 refine zna ⟨(.string s :: .string t :: un :: un :: .bool false :: .string p :: iN .i64 c :: .string p :: iN .i64 c :: .string g :: iN .i64 c :: .string g :: iN .i64 c :: .tuple #[.string p, iN .i64 c] :: .string s :: .tuple #[.string p, iN .i64 c] :: .string p :: iN .i64 c :: .tuple #[.string p, iN .i64 c] :: .string s :: .tuple #[.string p, iN .i64 c] :: .string p :: iN .i64 c :: .tuple #[.string g, iN .i64 c] :: .string s :: .string t :: .tuple #[.string g, iN .i64 c] :: .string g :: iN .i64 c :: .tuple #[.string g, iN .i64 c] :: .string s :: .string t :: .tuple #[.string g, iN .i64 c] :: .string g :: iN .i64 c :: List.replicate 21 un).toArray, []⟩ ?_
 refine zsr ?_
 refine zwv (.string p) ?_
 refine zwv (.string p) ?_
 refine zwu (run_eqs (s := p) (t := p) true (decide_eq_true rfl)) ?_
 refine zwv (.bool true) ?_
 refine zwv (iN .i64 c) ?_
 refine zwv (iN .i64 c) ?_
 refine zwu (run_eqi (k := .i64) (a := c) (b := c) true (decide_eq_true rfl)) ?_
 refine zwv (.bool true) ?_
 refine zwv (.bool true) ?_
 refine zwv (.string g) ?_
 refine zwv (.string g) ?_
 refine zwu (run_eqs (s := g) (t := g) true (decide_eq_true rfl)) ?_
 refine zwv (.bool true) ?_
 refine zwv (.bool true) ?_
 refine zwv (iN .i64 c) ?_
 refine zwv (iN .i64 c) ?_
 refine zwu (run_eqi (k := .i64) (a := c) (b := c) true (decide_eq_true rfl)) ?_
 refine zwv (.bool true) ?_
 refine zwv (.bool true) ?_
 refine zwc h8 ent9 (works_any w7 (VV.below h8.old VV.big)) ?_
 intro w9 h10
 refine zwv (.bool true) ?_
 refine zwv (.bool true) ?_
 refine znt ?_
 refine wp_ret ?_
 repeat first | refine then_ret ?_ | refine block_ret ?_
 exact bodyPost_ret (by kernel_rfl) rfl ⟨rfl, h10.old⟩
theorem SignMakes_any (s : ByteArray) (_hs : s.size ≤ 562949953421312) (t : ByteArray) (ht : t.size ≤ 562949953421312) (w : World) (VV : VA w) : Calls Tryz.prog 3 #[.string s, .string t] w fun e w' => e = .returned (.bool true) ∧ Below w.heap.size w w' := by
 by_cases hs : s.size = 32
 ·exact makes_core s t _ _ 0 (fun w V => Public_yes s hs w V) (fun w _ => rPublic_yes s hs w) (fun w V => Sign_yes s t hs ht w V) (fun w _ => rSign_yes s t hs ht w) w VV
 ·exact makes_core s t _ _ 8 (fun w _ => Public_no s hs w) (fun w _ => rPublic_no s hs w) (fun w _ => Sign_no s t hs w) (fun w _ => rSign_no s t hs w) w VV
end Go.Proofs.YtefjnfeckenmkaaGreatDoor
