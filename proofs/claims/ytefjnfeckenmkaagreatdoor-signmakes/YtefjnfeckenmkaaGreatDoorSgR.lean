/-
 the reference's Public, Sign and Verify.
-/
import Derived.Test.YtefjnfeckenmkaaGreatDoorSg3
import Derived.Test.YtefjnfeckenmkaaGreatDoorV3
import Derived.Test.YtefjnfeckenmkaaGreatDoorS5
import Derived.Test.YtefjnfeckenmkaaGreatDoorRs3
namespace Go.Proofs.YtefjnfeckenmkaaGreatDoor
set_option linter.unusedVariables false
set_option maxRecDepth 100000
set_option maxHeartbeats 2000000
open Go.RowKit Num
theorem bl_app (s t : ByteArray) : Hh.bl (s ++ t) = Hh.bl s ++ Hh.bl t := by
 unfold Hh.bl
 rw [ByteArray.data_append, Array.toList_append]
theorem shr_any (s : ByteArray) (hs : s.size ≤ 2251799813685248) (w : World) : Calls Tryz.prog 42 #[.string s] w fun e w' => e = .returned (.string (sh (Hh.bl s))) ∧ Below w.heap.size w w' := Hh.shaRL s hs w
theorem rtimes_any (s : ByteArray) (hs : s.size = 32) (w : World) :
  Calls Tryz.prog 13 #[.string s] w fun e w' => e = .returned (.string (encP (mP bP (numS s)))) ∧ Below w.heap.size w w' := by
 have H0 := HA.start w
 obtain ⟨qa, hqa, ca⟩ := rmul_ex Rp.base s hs
 go_enter Tryz.func13, Tryz.ntmps13
 refine zsr ?_
 refine zwv (.string { data := #[] }) ?_
 refine znt ?_
 refine zsr ?_
 refine zwc H0 ent34 (rBase_any w) ?_
 intro w1 h2
 refine zwv (.string s) ?_
 refine zwc h2 ent33 (ca w1) ?_
 intro w3 h4
 refine zwc h4 ent40 (rbytes_ex hqa w3) ?_
 intro w5 h6
 refine zwv (.string (encP (mP bP (numS s)))) ?_
 refine znt ?_
 refine wp_ret ?_
 repeat first | refine then_ret ?_ | refine block_ret ?_
 exact bodyPost_ret (by kernel_rfl) rfl ⟨rfl, h6.old⟩
theorem rsecret_any (s : ByteArray) (hs : s.size = 32) (w : World) :
  Calls Tryz.prog 14 #[.string s] w fun e w' => e = .returned (.string (skS (hS s))) ∧ Below w.heap.size w w' := by
 have H0 := HA.start w
 go_enter Tryz.func14, Tryz.ntmps14
 refine zsr ?_
 refine zwv (.string { data := #[] }) ?_
 refine znt ?_
 refine zsr ?_
 refine zwv (.string s) ?_
 refine zwc H0 ent42 (shr_any s (by omega) w) ?_
 intro w1 h2
 refine zwu (Sc.run_cut_hi (s := hS s) (b := 32) (sh_le _)) ?_
 refine zwc (v := .string (skS (hS s))) (args := #[.string ((hS s).extract 0 32)]) h2 ent41 (Sc.rClamp_same ((hS s).extract 0 32) (ext_size _ 0 32 (sh_le _)) w1) ?_
 intro w3 h4
 refine zwv (.string (skS (hS s))) ?_
 refine znt ?_
 refine wp_ret ?_
 repeat first | refine then_ret ?_ | refine block_ret ?_
 exact bodyPost_ret (by kernel_rfl) rfl ⟨rfl, h4.old⟩
theorem rprefix_any (s : ByteArray) (hs : s.size = 32) (w : World) :
  Calls Tryz.prog 22 #[.string s] w fun e w' => e = .returned (.string (pfS (hS s))) ∧ Below w.heap.size w w' := by
 have H0 := HA.start w
 go_enter Tryz.func22, Tryz.ntmps22
 refine zsr ?_
 refine zwv (.string { data := #[] }) ?_
 refine znt ?_
 refine zsr ?_
 refine zwv (.string s) ?_
 refine zwc H0 ent42 (shr_any s (by omega) w) ?_
 intro w1 h2
 refine zwu (Sc.run_cut_lo (s := hS s) (a := 32) (sh_le _)) ?_
 refine zwv (.string ((hS s).extract 32 (hS s).size)) ?_
 refine znt ?_
 refine wp_ret ?_
 repeat first | refine then_ret ?_ | refine block_ret ?_
 exact bodyPost_ret (by kernel_rfl) rfl ⟨rfl, h2.old⟩
theorem rnumber_any (s : ByteArray) (hs : s.size ≤ 2251799813685248) (w : World) :
  Calls Tryz.prog 21 #[.string s] w fun e w' => e = .returned (.string (kS (Hh.bl s))) ∧ Below w.heap.size w w' := by
 have H0 := HA.start w
 go_enter Tryz.func21, Tryz.ntmps21
 refine zsr ?_
 refine zwv (.string { data := #[] }) ?_
 refine znt ?_
 refine zsr ?_
 refine zwv (.string s) ?_
 refine zwc H0 ent42 (shr_any s hs w) ?_
 intro w1 h2
 refine zwc h2 ent60 (Sc.rReduce_any (sh (Hh.bl s)) w1) ?_
 intro w3 h4
 refine zwv (.string (kS (Hh.bl s))) ?_
 refine znt ?_
 refine wp_ret ?_
 repeat first | refine then_ret ?_ | refine block_ret ?_
 exact bodyPost_ret (by kernel_rfl) rfl ⟨rfl, h4.old⟩
theorem rPublic_yes (s : ByteArray) (hs : s.size = 32) (w : World) :
  Calls Tryz.prog 6 #[.string s] w fun e w' => e = .returned (.tuple #[.string (pkS (hS s)), iN .i64 0]) ∧ Below w.heap.size w w' := by
 have H0 := HA.start w
 go_enter Tryz.func6, Tryz.ntmps6
 refine zsr ?_
 refine zwv (.string { data := #[] }) ?_
 refine zwv (iN .i64 0) ?_
 refine znt ?_
 refine wp_seq ?_
 refine zsr ?_
 refine zwv (.string s) ?_
 refine zwu (run_len (s := s)) ?_
 refine zwu (run_nei (k := .i64) (a := s.size) (b := 32) false (decide_eq_false (fun h => h hs))) ?_
 refine znt ?_
 refine zcf ?_
 refine wp_skip ?_
 refine then_at rfl ?_
 refine zsr ?_
 refine zwv (.string s) ?_
 refine zwc H0 ent14 (rsecret_any s hs w) ?_
 intro w1 h2
 refine zwc (v := .string (pkS (hS s))) (args := #[.string (skS (hS s))]) h2 ent13 (rtimes_any (skS (hS s)) (skS_size _ (hS_size s)) w1) ?_
 intro w3 h4
 refine zwv (.string (pkS (hS s))) ?_
 refine zwv (iN .i64 0) ?_
 refine znt ?_
 refine wp_ret ?_
 repeat first | refine then_ret ?_ | refine block_ret ?_
 exact bodyPost_ret (by kernel_rfl) rfl ⟨rfl, h4.old⟩
theorem rPublic_no (s : ByteArray) (hs : s.size ≠ 32) (w : World) :
  Calls Tryz.prog 6 #[.string s] w fun e w' => e = .returned (.tuple #[.string { data := #[] }, iN .i64 8]) ∧ Below w.heap.size w w' := by
 have H0 := HA.start w
 go_enter Tryz.func6, Tryz.ntmps6
 refine zsr ?_
 refine zwv (.string { data := #[] }) ?_
 refine zwv (iN .i64 0) ?_
 refine znt ?_
 refine wp_seq ?_
 refine zsr ?_
 refine zwv (.string s) ?_
 refine zwu (run_len (s := s)) ?_
 refine zwu (run_nei (k := .i64) (a := s.size) (b := 32) true (decide_eq_true hs)) ?_
 refine znt ?_
 refine zct ?_
 refine zsr ?_
 refine zwv (.string { data := #[] }) ?_
 refine zwv (iN .i64 8) ?_
 refine znt ?_
 refine wp_ret ?_
 repeat first | refine then_ret ?_ | refine block_ret ?_
 exact bodyPost_ret (by kernel_rfl) rfl ⟨rfl, H0.old⟩
theorem rSign_no (s t : ByteArray) (hs : s.size ≠ 32) (w : World) :
  Calls Tryz.prog 8 #[.string s, .string t] w fun e w' => e = .returned (.tuple #[.string { data := #[] }, iN .i64 8]) ∧ Below w.heap.size w w' := by
 have H0 := HA.start w
 go_enter Tryz.func8, Tryz.ntmps8
 refine zsr ?_
 refine zwv (.string { data := #[] }) ?_
 refine zwv (iN .i64 0) ?_
 refine znt ?_
 refine zsr ?_
 refine zwv (.string s) ?_
 refine zwc H0 ent6 (rPublic_no s hs w) ?_
 intro w1 h2
 refine zwv (.tuple #[.string ({ data := #[] }), iN .i64 8]) ?_
 refine zwv (.string ({ data := #[] })) ?_
 refine zwv (iN .i64 8) ?_
 refine zwv (.string ({ data := #[] })) ?_
 refine zwv (iN .i64 8) ?_
 refine znt ?_
 refine wp_seq ?_
 refine zsr ?_
 refine zwv (iN .i64 8) ?_
 refine zwu (run_nei (k := .i64) (a := 8) (b := 0) true (by decide)) ?_
 refine znt ?_
 refine zct ?_
 refine zsr ?_
 refine zwv (iN .i64 8) ?_
 refine zwv (.string { data := #[] }) ?_
 refine zwv (iN .i64 8) ?_
 refine znt ?_
 refine wp_ret ?_
 repeat first | refine then_ret ?_ | refine block_ret ?_
 exact bodyPost_ret (by kernel_rfl) rfl ⟨rfl, h2.old⟩
theorem rsign_core (s t p f r R k a m S : ByteArray) (ht : t.size ≤ 562949953421312) (pz : p.size = 32) (fz : f.size = 32) (Rz : R.size = 32) (Sz : S.size = 32)
  (i1 : (∀ w, Calls Tryz.prog 6 #[.string s] w fun e w' => e = .returned (.tuple #[.string p, iN .i64 0]) ∧ Below w.heap.size w w')) (i2 : (∀ w, Calls Tryz.prog 22 #[.string s] w fun e w' => e = .returned (.string f) ∧ Below w.heap.size w w')) (i3 : (∀ w, Calls Tryz.prog 21 #[.string (f ++ t)] w fun e w' => e = .returned (.string r) ∧ Below w.heap.size w w')) (i4 : (∀ w, Calls Tryz.prog 13 #[.string r] w fun e w' => e = .returned (.string R) ∧ Below w.heap.size w w')) (i5 : (∀ w, Calls Tryz.prog 21 #[.string ((R ++ p) ++ t)] w fun e w' => e = .returned (.string k) ∧ Below w.heap.size w w')) (i6 : (∀ w, Calls Tryz.prog 14 #[.string s] w fun e w' => e = .returned (.string a) ∧ Below w.heap.size w w')) (i7 : (∀ w, Calls Tryz.prog 24 #[.string k, .string a] w fun e w' => e = .returned (.string m) ∧ Below w.heap.size w w')) (i8 : (∀ w, Calls Tryz.prog 23 #[.string r, .string m] w fun e w' => e = .returned (.string S) ∧ Below w.heap.size w w')) (w : World) :
  Calls Tryz.prog 8 #[.string s, .string t] w fun e w' => e = .returned (.tuple #[.string (R ++ S), iN .i64 0]) ∧ Below w.heap.size w w' := by
 have H0 := HA.start w
 go_enter Tryz.func8, Tryz.ntmps8
 refine zsr ?_
 refine zwv (.string { data := #[] }) ?_
 refine zwv (iN .i64 0) ?_
 refine znt ?_
 refine zsr ?_
 refine zwv (.string s) ?_
 refine zwc H0 ent6 (i1 w) ?_
 intro w1 h2
 refine zwv (.tuple #[.string p, iN .i64 0]) ?_
 refine zwv (.string p) ?_
 refine zwv (iN .i64 0) ?_
 refine zwv (.string p) ?_
 refine zwv (iN .i64 0) ?_
 refine znt ?_
 refine wp_seq ?_
 refine zsr ?_
 refine zwv (iN .i64 0) ?_
 refine zwu (run_nei (k := .i64) (a := 0) (b := 0) false (by decide)) ?_
 refine znt ?_
 refine zcf ?_
 refine wp_skip ?_
 refine then_at rfl ?_
 refine zsr ?_
 refine zwv (.string s) ?_
 refine zwc h2 ent22 (i2 w1) ?_
 intro w3 h4
 refine zwv (.string t) ?_
 refine zwu (run_cat (s := f) (t := t) (by omega)) ?_
 refine zwc h4 ent21 (i3 w3) ?_
 intro w5 h6
 refine zwv (.string r) ?_
 refine znt ?_
 refine zsr ?_
 refine zwv (.string r) ?_
 refine zwc h6 ent13 (i4 w5) ?_
 intro w7 h8
 refine zwv (.string R) ?_
 refine znt ?_
 refine zsr ?_
 refine zwv (.string R) ?_
 refine zwv (.string p) ?_
 refine zwu (run_cat (s := R) (t := p) (by omega)) ?_
 refine zwv (.string t) ?_
 refine zwu (run_cat (s := (R ++ p)) (t := t) (by rw [app_size]; omega)) ?_
 refine zwc h8 ent21 (i5 w7) ?_
 intro w9 h10
 refine zwv (.string k) ?_
 refine zna ⟨(.string s :: .string t :: un :: un :: .string { data := #[] } :: iN .i64 0 :: .string p :: iN .i64 0 :: .string r :: .string R :: .string k :: .tuple #[.string p, iN .i64 0] :: .string s :: .tuple #[.string p, iN .i64 0] :: .string p :: iN .i64 0 :: iN .i64 0 :: .bool false :: un :: .string s :: .string f :: .string t :: .string (f ++ t) :: .string r :: .string r :: .string R :: .string R :: .string p :: .string (R ++ p) :: .string t :: .string ((R ++ p) ++ t) :: .string k :: List.replicate 8 un).toArray, []⟩ ?_
 refine zsr ?_
 refine zwv (.string R) ?_
 refine zwv (.string r) ?_
 refine zwv (.string k) ?_
 refine zwv (.string s) ?_
 refine zwc h10 ent14 (i6 w9) ?_
 intro w11 h12
 refine zwc h12 ent24 (i7 w11) ?_
 intro w13 h14
 refine zwc h14 ent23 (i8 w13) ?_
 intro w15 h16
 refine zwu (run_cat (s := R) (t := S) (by omega)) ?_
 refine zwv (.string (R ++ S)) ?_
 refine zwv (iN .i64 0) ?_
 refine znt ?_
 refine wp_ret ?_
 repeat first | refine then_ret ?_ | refine block_ret ?_
 exact bodyPost_ret (by kernel_rfl) rfl ⟨rfl, h16.old⟩
theorem rSign_yes (s t : ByteArray) (hs : s.size = 32) (ht : t.size ≤ 562949953421312) (w : World) : Calls Tryz.prog 8 #[.string s, .string t] w fun e w' => e = .returned (.tuple #[.string (sigS s t), iN .i64 0]) ∧ Below w.heap.size w w' := by
 have pz : (pkS (hS s)).size = 32 := encP_size _
 have fz := pfS_size _ (hS_size s)
 have Rz := RbS_size s t
 refine rsign_core s t (pkS (hS s)) (pfS (hS s)) (rrS s t) (RbS s t) (kkS s t) (skS (hS s)) (Sc.mS (kkS s t) (skS (hS s))) (SsS s t) ht pz fz Rz (SsS_size s t)
  (fun w => rPublic_yes s hs w) (fun w => rprefix_any s hs w) (fun w => ?_) (fun w => rtimes_any _ (kS_size _) w) (fun w => ?_) (fun w => rsecret_any s hs w) (fun w => Sc.rMul_any _ _ w) (fun w => Sc.rAdd_any _ _ w) w
 ·have h := rnumber_any (pfS (hS s) ++ t) (by rw [app_size]; omega) w
  rw [bl_app] at h
  exact h
 ·have h := rnumber_any ((RbS s t ++ pkS (hS s)) ++ t) (by rw [app_size, app_size]; omega) w
  rw [bl_app, bl_app, List.append_assoc] at h
  exact h
end Go.Proofs.YtefjnfeckenmkaaGreatDoor
