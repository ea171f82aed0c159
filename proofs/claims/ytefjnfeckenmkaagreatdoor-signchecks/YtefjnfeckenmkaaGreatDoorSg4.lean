/-
 sign: the chapter's key and signature, reckoned; what works tells.
-/
import Derived.Test.YtefjnfeckenmkaaGreatDoorSg3
import Derived.Test.YtefjnfeckenmkaaGreatDoorSgH
namespace Go.Proofs.YtefjnfeckenmkaaGreatDoor
set_option linter.unusedVariables false
set_option maxRecDepth 100000
set_option maxHeartbeats 2000000
open Go.RowKit Num
def eS : ByteArray := { data := #[] }
def xS : ByteArray := { data := #[120] }
def sd1 : ByteArray := { data := #[157, 97, 177, 157, 239, 253, 90, 96, 186, 132, 74, 244, 146, 236, 44, 196, 68, 73, 197, 105, 123, 50, 105, 25, 112, 59, 172, 3, 28, 174, 127, 96] }
def sdx1 : ByteArray := { data := #[57, 100, 54, 49, 98, 49, 57, 100, 101, 102, 102, 100, 53, 97, 54, 48, 98, 97, 56, 52, 52, 97, 102, 52, 57, 50, 101, 99, 50, 99, 99, 52, 52, 52, 52, 57, 99, 53, 54, 57, 55, 98, 51, 50, 54, 57, 49, 57, 55, 48, 51, 98, 97, 99, 48, 51, 49, 99, 97, 101, 55, 102, 54, 48] }
def pk1 : ByteArray := { data := #[215, 90, 152, 1, 130, 177, 10, 183, 213, 75, 254, 211, 201, 100, 7, 58, 14, 225, 114, 243, 218, 166, 35, 37, 175, 2, 26, 104, 247, 7, 81, 26] }
def pkx1 : ByteArray := { data := #[100, 55, 53, 97, 57, 56, 48, 49, 56, 50, 98, 49, 48, 97, 98, 55, 100, 53, 52, 98, 102, 101, 100, 51, 99, 57, 54, 52, 48, 55, 51, 97, 48, 101, 101, 49, 55, 50, 102, 51, 100, 97, 97, 54, 50, 51, 50, 53, 97, 102, 48, 50, 49, 97, 54, 56, 102, 55, 48, 55, 53, 49, 49, 97] }
def sg1 : ByteArray := { data := #[229, 86, 67, 0, 195, 96, 172, 114, 144, 134, 226, 204, 128, 110, 130, 138, 132, 135, 127, 30, 184, 229, 217, 116, 216, 115, 224, 101, 34, 73, 1, 85, 95, 184, 130, 21, 144, 163, 59, 172, 198, 30, 57, 112, 28, 249, 180, 107, 210, 91, 245, 240, 89, 91, 190, 36, 101, 81, 65, 67, 142, 122, 16, 11] }
def sgx1 : ByteArray := { data := #[101, 53, 53, 54, 52, 51, 48, 48, 99, 51, 54, 48, 97, 99, 55, 50, 57, 48, 56, 54, 101, 50, 99, 99, 56, 48, 54, 101, 56, 50, 56, 97, 56, 52, 56, 55, 55, 102, 49, 101, 98, 56, 101, 53, 100, 57, 55, 52, 100, 56, 55, 51, 101, 48, 54, 53, 50, 50, 52, 57, 48, 49, 53, 53, 53, 102, 98, 56, 56, 50, 49, 53, 57, 48, 97, 51, 51, 98, 97, 99, 99, 54, 49, 101, 51, 57, 55, 48, 49, 99, 102, 57, 98, 52, 54, 98, 100, 50, 53, 98, 102, 53, 102, 48, 53, 57, 53, 98, 98, 101, 50, 52, 54, 53, 53, 49, 52, 49, 52, 51, 56, 101, 55, 97, 49, 48, 48, 98] }
def hh1 : ByteArray := { data := #[53, 124, 131, 134, 79, 40, 51, 203, 66, 122, 46, 241, 192, 10, 1, 60, 253, 255, 39, 104, 217, 128, 192, 163, 165, 32, 240, 6, 144, 77, 233, 15, 155, 79, 10, 254, 40, 11, 116, 106, 119, 134, 132, 231, 84, 66, 80, 32, 87, 183, 71, 58, 3, 240, 143, 150, 245, 163, 142, 146, 135, 224, 31, 143] }
def rb1 : ByteArray := { data := #[229, 86, 67, 0, 195, 96, 172, 114, 144, 134, 226, 204, 128, 110, 130, 138, 132, 135, 127, 30, 184, 229, 217, 116, 216, 115, 224, 101, 34, 73, 1, 85] }
def ss1 : ByteArray := { data := #[95, 184, 130, 21, 144, 163, 59, 172, 198, 30, 57, 112, 28, 249, 180, 107, 210, 91, 245, 240, 89, 91, 190, 36, 101, 81, 65, 67, 142, 122, 16, 11] }
theorem hh1_is : hS sd1 = hh1 := by decide +kernel
theorem a1_is : numS (skS hh1) = 36144925721603087658594284515452164870581325872720374094707712194495455132720 := by decide +kernel
theorem r1_is : numS (kS (Hh.bl (pfS hh1) ++ Hh.bl eS)) = 2015312323900227545039973048451112962192803170366412514267238242679089760755 := by decide +kernel
theorem encA1 : encL 38815646466658113194383306759739515082307681141926459231621296960732224964046 11903303657706407974989296177215005343713679411332034699907763981919547054807 = pk1 := by decide +kernel
theorem encR1 : encL 44370630452101398467924320556439323233869374150616132215183787387252341590058 38448863731492799660668882834560725606410712239157980760146247592118262650597 = rb1 := by decide +kernel
theorem mulA1 : encP (mP bP 36144925721603087658594284515452164870581325872720374094707712194495455132720) = pk1 := (enc_of 36144925721603087658594284515452164870581325872720374094707712194495455132720 38815646466658113194383306759739515082307681141926459231621296960732224964046 11903303657706407974989296177215005343713679411332034699907763981919547054807 (by decide) (by decide) (by decide) (by decide +kernel)).trans encA1
theorem mulR1 : encP (mP bP 2015312323900227545039973048451112962192803170366412514267238242679089760755) = rb1 := (enc_of 2015312323900227545039973048451112962192803170366412514267238242679089760755 44370630452101398467924320556439323233869374150616132215183787387252341590058 38448863731492799660668882834560725606410712239157980760146247592118262650597 (by decide) (by decide) (by decide) (by decide +kernel)).trans encR1
theorem pk1_is : pkS (hS sd1) = pk1 := by
 unfold pkS
 rw [hh1_is, a1_is, mulA1]
theorem rr1_is : numS (rrS sd1 eS) = 2015312323900227545039973048451112962192803170366412514267238242679089760755 := by
 unfold rrS
 rw [hh1_is, r1_is]
theorem rb1_is : RbS sd1 eS = rb1 := by
 unfold RbS
 rw [rr1_is, mulR1]
theorem kn1_is : numS (kS (Hh.bl rb1 ++ (Hh.bl pk1 ++ Hh.bl eS))) = 1958233733501237659471134851339390337284068724042047466985993338226439154310 := by decide +kernel
theorem kk1_is : numS (kkS sd1 eS) = 1958233733501237659471134851339390337284068724042047466985993338226439154310 := by
 unfold kkS
 rw [rb1_is, pk1_is, kn1_is]
theorem ss1_is : SsS sd1 eS = ss1 := by
 refine num_eq (SsS_size _ _) rfl ?_
 rw [Ss_num, rr1_is, hh1_is, a1_is, kk1_is]
 decide +kernel
theorem sg1_is : sigS sd1 eS = sg1 := by
 unfold sigS
 rw [rb1_is, ss1_is]
 decide +kernel
theorem ver1 : verP pk1 eS sg1 := by
 rw [← pk1_is, ← sg1_is]
 exact sig_ver _ _
theorem sdx1_hex (w : World) : Calls Tryz.prog 26 #[.string sdx1] w fun e w' => e = .returned (.string sd1) ∧ Below w.heap.size w w' := by
 have hd : Hexd sdx1 := fun i hi => by
  have h : ∀ i : Fin 64, 48 ≤ sb sdx1 i.1 ∧ sb sdx1 i.1 < 128 ∧ halfN (sb sdx1 i.1) < 16 := by decide +kernel
  exact h ⟨i, hi⟩
 have hz := hex_any sdx1 rfl hd w
 have e : (⟨(hexL sdx1 32).toArray⟩ : ByteArray) = sd1 := by decide +kernel
 rw [e] at hz
 exact hz
theorem pkx1_hex (w : World) : Calls Tryz.prog 26 #[.string pkx1] w fun e w' => e = .returned (.string pk1) ∧ Below w.heap.size w w' := by
 have hd : Hexd pkx1 := fun i hi => by
  have h : ∀ i : Fin 64, 48 ≤ sb pkx1 i.1 ∧ sb pkx1 i.1 < 128 ∧ halfN (sb pkx1 i.1) < 16 := by decide +kernel
  exact h ⟨i, hi⟩
 have hz := hex_any pkx1 rfl hd w
 have e : (⟨(hexL pkx1 32).toArray⟩ : ByteArray) = pk1 := by decide +kernel
 rw [e] at hz
 exact hz
theorem sgx1_hex (w : World) : Calls Tryz.prog 26 #[.string sgx1] w fun e w' => e = .returned (.string sg1) ∧ Below w.heap.size w w' := by
 have hd : X2.Hexd sgx1 := fun i hi => by
  have h : ∀ i : Fin 128, 48 ≤ sb sgx1 i.1 ∧ sb sgx1 i.1 < 128 ∧ halfN (sb sgx1 i.1) < 16 := by decide +kernel
  exact h ⟨i, hi⟩
 have hz := X2.hex_any sgx1 rfl hd w
 have e : (⟨(X2.hexL sgx1 64).toArray⟩ : ByteArray) = sg1 := by decide +kernel
 rw [e] at hz
 exact hz
theorem kx1_is : numS (kvS pk1 xS rb1) = 7105053535885340757715205778169356927404386393052748833402476575000598598480 := by decide +kernel
theorem ver1x : ¬ verP pk1 xS sg1 := by
 rw [← pk1_is, ← sg1_is]
 refine sig_text _ _ _ ?_
 rw [rr1_is, rb1_is, pk1_is, kx1_is, hh1_is, a1_is, ss1_is]
 decide +kernel
theorem seed_any (w : World) :
  Calls Tryz.prog 25 #[] w fun e w' => e = .returned (.string sd1) ∧ Below w.heap.size w w' := by
 have H0 := HA.start w
 go_enter Tryz.func25, Tryz.ntmps25
 refine zsr ?_
 refine zwv (.string eS) ?_
 refine znt ?_
 refine zsr ?_
 refine zwc H0 ent26 (sdx1_hex w) ?_
 intro w1 h2
 refine zwv (.string sd1) ?_
 refine znt ?_
 exact wp_ret (zb h2.old)
theorem pub1 (w : World) (VV : VA w) : Calls Tryz.prog 5 #[.string sd1] w fun e w' => e = .returned (.tuple #[.string pk1, iN .i64 0]) ∧ Below w.heap.size w w' := by
 rw [← pk1_is]
 exact Public_yes sd1 rfl w VV
theorem sig1 (w : World) (VV : VA w) : Calls Tryz.prog 7 #[.string sd1, .string eS] w fun e w' => e = .returned (.tuple #[.string sg1, iN .i64 0]) ∧ Below w.heap.size w w' := by
 rw [← sg1_is]
 exact Sign_yes sd1 eS rfl (by decide) w VV
theorem works_any (w : World) (VV : VA w) :
  Calls Tryz.prog 9 #[] w fun e w' => e = .returned (.bool true) ∧ Below w.heap.size w w' := by
 have H0 := HA.start w
 go_enter Tryz.func9, Tryz.ntmps9
 refine zsr ?_
 refine zwv (.bool false) ?_
 refine znt ?_
 refine zsr ?_
 refine zwc H0 ent25 (seed_any w) ?_
 intro w1 h2
 refine zwc h2 ent5 (pub1 w1 (VV.below h2.old VV.big)) ?_
 intro w3 h4
 refine zwv (.tuple #[.string pk1, iN .i64 0]) ?_
 refine zwv (.string pk1) ?_
 refine zwv (iN .i64 0) ?_
 refine zwv (.string pk1) ?_
 refine zwv (iN .i64 0) ?_
 refine znt ?_
 refine zsr ?_
 refine zwc h4 ent25 (seed_any w3) ?_
 intro w5 h6
 refine zwc h6 ent7 (sig1 w5 (VV.below h6.old VV.big)) ?_
 intro w7 h8
 refine zwv (.tuple #[.string sg1, iN .i64 0]) ?_
 refine zwv (.string sg1) ?_
 refine zwv (iN .i64 0) ?_
 refine zwv (.string sg1) ?_
 refine zwv (iN .i64 0) ?_
 refine znt ?_
 refine zsr ?_
 refine zwv (iN .i64 0) ?_
 refine zwu (run_eqi (k := .i64) (a := 0) (b := 0) true (by decide)) ?_
 refine zwv (.bool true) ?_
 refine zwv (iN .i64 0) ?_
 refine zwu (run_eqi (k := .i64) (a := 0) (b := 0) true (by decide)) ?_
 refine zwv (.bool true) ?_
 refine zwv (.bool true) ?_
 refine zwv (.string pk1) ?_
 refine zwc h8 ent26 (pkx1_hex w7) ?_
 intro w9 h10
 refine zwu (run_eqs (s := pk1) (t := pk1) true (decide_eq_true rfl)) ?_
 refine zwv (.bool true) ?_
 refine zwv (.bool true) ?_
 refine zwv (.string sg1) ?_
 refine zwc h10 ent26 (sgx1_hex w9) ?_
 intro w11 h12
 refine zwu (run_eqs (s := sg1) (t := sg1) true (decide_eq_true rfl)) ?_
 refine zwv (.bool true) ?_
 refine zwv (.bool true) ?_
 refine zwv (.string pk1) ?_
 refine zwv (.string sg1) ?_
 refine zwc h12 ent10 (Verify_yes pk1 eS sg1 (by decide) (by decide) ver1 w11 (VV.below h12.old VV.big)) ?_
 intro w13 h14
 refine zwv (.bool true) ?_
 refine zwv (.bool true) ?_
 refine zwv (.string pk1) ?_
 refine zwv (.string sg1) ?_
 refine zwc h14 ent10 (Verify_no pk1 xS sg1 (by decide) (by decide) ver1x w13 (VV.below h14.old VV.big)) ?_
 intro w15 h16
 refine zwv (.bool true) ?_
 refine zwv (.bool true) ?_
 refine zwv (.bool true) ?_
 refine znt ?_
 exact wp_ret (zb h16.old)
end Go.Proofs.YtefjnfeckenmkaaGreatDoor
