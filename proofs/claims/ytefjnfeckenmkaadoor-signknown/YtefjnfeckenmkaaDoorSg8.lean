/-
  the law SignKnown: the chapter's examples.
-/
import Derived.Test.YtefjnfeckenmkaaDoorSg5
namespace Go.Proofs.YtefjnfeckenmkaaDoor
open Go.RowKit Num
def cS : ByteArray := { data := #[114] }
def sd2 : ByteArray := { data := #[76, 205, 8, 155, 40, 255, 150, 218, 157, 182, 195, 70, 236, 17, 78, 15, 91, 138, 49, 159, 53, 171, 166, 36, 218, 140, 246, 237, 79, 184, 166, 251] }
def sdx2 : ByteArray := { data := #[52, 99, 99, 100, 48, 56, 57, 98, 50, 56, 102, 102, 57, 54, 100, 97, 57, 100, 98, 54, 99, 51, 52, 54, 101, 99, 49, 49, 52, 101, 48, 102, 53, 98, 56, 97, 51, 49, 57, 102, 51, 53, 97, 98, 97, 54, 50, 52, 100, 97, 56, 99, 102, 54, 101, 100, 52, 102, 98, 56, 97, 54, 102, 98] }
def pk2 : ByteArray := { data := #[61, 64, 23, 195, 232, 67, 137, 90, 146, 183, 10, 167, 77, 27, 126, 188, 156, 152, 44, 207, 46, 196, 150, 140, 192, 205, 85, 241, 42, 244, 102, 12] }
def pkx2 : ByteArray := { data := #[51, 100, 52, 48, 49, 55, 99, 51, 101, 56, 52, 51, 56, 57, 53, 97, 57, 50, 98, 55, 48, 97, 97, 55, 52, 100, 49, 98, 55, 101, 98, 99, 57, 99, 57, 56, 50, 99, 99, 102, 50, 101, 99, 52, 57, 54, 56, 99, 99, 48, 99, 100, 53, 53, 102, 49, 50, 97, 102, 52, 54, 54, 48, 99] }
def sg2 : ByteArray := { data := #[146, 160, 9, 169, 240, 212, 202, 184, 114, 14, 130, 11, 95, 100, 37, 64, 162, 178, 123, 84, 22, 80, 63, 143, 179, 118, 34, 35, 235, 219, 105, 218, 8, 90, 193, 228, 62, 21, 153, 110, 69, 143, 54, 19, 208, 241, 29, 140, 56, 123, 46, 174, 180, 48, 42, 238, 176, 13, 41, 22, 18, 187, 12, 0] }
def sgx2 : ByteArray := { data := #[57, 50, 97, 48, 48, 57, 97, 57, 102, 48, 100, 52, 99, 97, 98, 56, 55, 50, 48, 101, 56, 50, 48, 98, 53, 102, 54, 52, 50, 53, 52, 48, 97, 50, 98, 50, 55, 98, 53, 52, 49, 54, 53, 48, 51, 102, 56, 102, 98, 51, 55, 54, 50, 50, 50, 51, 101, 98, 100, 98, 54, 57, 100, 97, 48, 56, 53, 97, 99, 49, 101, 52, 51, 101, 49, 53, 57, 57, 54, 101, 52, 53, 56, 102, 51, 54, 49, 51, 100, 48, 102, 49, 49, 100, 56, 99, 51, 56, 55, 98, 50, 101, 97, 101, 98, 52, 51, 48, 50, 97, 101, 101, 98, 48, 48, 100, 50, 57, 49, 54, 49, 50, 98, 98, 48, 99, 48, 48] }
def hh2 : ByteArray := { data := #[110, 189, 158, 215, 88, 130, 213, 40, 21, 169, 117, 133, 202, 244, 121, 10, 127, 108, 107, 59, 127, 130, 28, 94, 37, 154, 36, 176, 46, 80, 46, 17, 69, 102, 132, 130, 145, 218, 202, 242, 37, 204, 99, 222, 179, 72, 218, 49, 142, 44, 46, 23, 176, 11, 129, 96, 249, 206, 107, 250, 4, 114, 145, 29] }
def rb2 : ByteArray := { data := #[146, 160, 9, 169, 240, 212, 202, 184, 114, 14, 130, 11, 95, 100, 37, 64, 162, 178, 123, 84, 22, 80, 63, 143, 179, 118, 34, 35, 235, 219, 105, 218] }
def ss2 : ByteArray := { data := #[8, 90, 193, 228, 62, 21, 153, 110, 69, 143, 54, 19, 208, 241, 29, 140, 56, 123, 46, 174, 180, 48, 42, 238, 176, 13, 41, 22, 18, 187, 12, 0] }
theorem hh2_is : hS sd2 = hh2 := by decide +kernel
theorem a2_is : numS (skS hh2) = 36719169098639693649133653787996834628439804378423932336643700061163197742440 := by decide +kernel
theorem r2_is : numS (kS (Hh.bl (pfS hh2) ++ Hh.bl cS)) = 3708935390207795704151005957304313360809555365997121277205774546442005757839 := by decide +kernel
theorem encA2 : encL 52774231920053734232574595727734981596546427020284349182563870143297718469550 5609657767448528674903586191599477543993232845525898641911799861560072421437 = pk2 := by decide +kernel
theorem encR2 : encL 9723755734215906320098229349078520107637843343703680356978966424352572363457 40895193136033226965014799556713247533209654337761990128738905002094921097362 = rb2 := by decide +kernel
theorem mulA2 : encP (mP bP 36719169098639693649133653787996834628439804378423932336643700061163197742440) = pk2 := (enc_of 36719169098639693649133653787996834628439804378423932336643700061163197742440 52774231920053734232574595727734981596546427020284349182563870143297718469550 5609657767448528674903586191599477543993232845525898641911799861560072421437 (by decide) (by decide) (by decide) (by decide +kernel)).trans encA2
theorem mulR2 : encP (mP bP 3708935390207795704151005957304313360809555365997121277205774546442005757839) = rb2 := (enc_of 3708935390207795704151005957304313360809555365997121277205774546442005757839 9723755734215906320098229349078520107637843343703680356978966424352572363457 40895193136033226965014799556713247533209654337761990128738905002094921097362 (by decide) (by decide) (by decide) (by decide +kernel)).trans encR2
theorem pk2_is : pkS (hS sd2) = pk2 := by
  unfold pkS
  rw [hh2_is, a2_is, mulA2]
theorem rr2_is : numS (rrS sd2 cS) = 3708935390207795704151005957304313360809555365997121277205774546442005757839 := by
  unfold rrS
  rw [hh2_is, r2_is]
theorem rb2_is : RbS sd2 cS = rb2 := by
  unfold RbS
  rw [rr2_is, mulR2]
theorem kn2_is : numS (kS (Hh.bl rb2 ++ (Hh.bl pk2 ++ Hh.bl cS))) = 1521055386790426224942618188468695662894702443171065680331295640303292610227 := by decide +kernel
theorem kk2_is : numS (kkS sd2 cS) = 1521055386790426224942618188468695662894702443171065680331295640303292610227 := by
  unfold kkS
  rw [rb2_is, pk2_is, kn2_is]
theorem ss2_is : SsS sd2 cS = ss2 := by
  refine num_eq (SsS_size _ _) rfl ?_
  rw [Ss_num, rr2_is, hh2_is, a2_is, kk2_is]
  decide +kernel
theorem sg2_is : sigS sd2 cS = sg2 := by
  unfold sigS
  rw [rb2_is, ss2_is]
  decide +kernel
theorem ver2 : verP pk2 cS sg2 := by
  rw [← pk2_is, ← sg2_is]
  exact sig_ver _ _
theorem sdx2_hex (w : World) : Calls Tryd.prog 22 #[.string sdx2] w fun e w' => e = .returned (.string sd2) ∧ Below w.heap.size w w' := by
  have hd : Hexd sdx2 := fun i hi => by
    have h : ∀ i : Fin 64, 48 ≤ sb sdx2 i.1 ∧ sb sdx2 i.1 < 128 ∧ halfN (sb sdx2 i.1) < 16 := by decide +kernel
    exact h ⟨i, hi⟩
  have hz := hex_any sdx2 rfl hd w
  have e : (⟨(hexL sdx2 32).toArray⟩ : ByteArray) = sd2 := by decide +kernel
  rw [e] at hz
  exact hz
theorem pkx2_hex (w : World) : Calls Tryd.prog 22 #[.string pkx2] w fun e w' => e = .returned (.string pk2) ∧ Below w.heap.size w w' := by
  have hd : Hexd pkx2 := fun i hi => by
    have h : ∀ i : Fin 64, 48 ≤ sb pkx2 i.1 ∧ sb pkx2 i.1 < 128 ∧ halfN (sb pkx2 i.1) < 16 := by decide +kernel
    exact h ⟨i, hi⟩
  have hz := hex_any pkx2 rfl hd w
  have e : (⟨(hexL pkx2 32).toArray⟩ : ByteArray) = pk2 := by decide +kernel
  rw [e] at hz
  exact hz
theorem sgx2_hex (w : World) : Calls Tryd.prog 22 #[.string sgx2] w fun e w' => e = .returned (.string sg2) ∧ Below w.heap.size w w' := by
  have hd : X2.Hexd sgx2 := fun i hi => by
    have h : ∀ i : Fin 128, 48 ≤ sb sgx2 i.1 ∧ sb sgx2 i.1 < 128 ∧ halfN (sb sgx2 i.1) < 16 := by decide +kernel
    exact h ⟨i, hi⟩
  have hz := X2.hex_any sgx2 rfl hd w
  have e : (⟨(X2.hexL sgx2 64).toArray⟩ : ByteArray) = sg2 := by decide +kernel
  rw [e] at hz
  exact hz
def sgb : ByteArray := { data := #[229, 86, 67, 0, 195, 96, 172, 114, 144, 134, 226, 204, 128, 110, 130, 138, 132, 135, 127, 30, 184, 229, 217, 116, 216, 115, 224, 101, 34, 73, 1, 85, 95, 184, 130, 21, 144, 163, 59, 172, 198, 30, 57, 112, 28, 249, 180, 107, 210, 91, 245, 240, 89, 91, 190, 36, 101, 81, 65, 67, 142, 122, 16, 10] }
def ssb : ByteArray := { data := #[95, 184, 130, 21, 144, 163, 59, 172, 198, 30, 57, 112, 28, 249, 180, 107, 210, 91, 245, 240, 89, 91, 190, 36, 101, 81, 65, 67, 142, 122, 16, 10] }
theorem verb : ¬ verP pk1 eS sgb := fun h => by
  have e : sgb = RbS sd1 eS ++ ssb := by rw [rb1_is]; decide +kernel
  rw [← pk1_is, e] at h
  have e2 := sig_other _ _ _ rfl h
  rw [ss1_is] at e2
  exact absurd e2 (by decide +kernel)
theorem get63 (m : Nat) : (byC (bl sg1) m)[63]? = some (iN .u8 11) := by
  rw [byC_get (bl sg1) m 63 (by decide +kernel), show (bl sg1).getD 63 0 = 11 by decide +kernel]
  rfl
theorem put63 (m : Nat) : (byC (bl sg1) m).setIfInBounds 63 (.int .u8 ((10 : Nat) : Int)) = byC (bl sgb) m := by
  rw [byC_put (bl sg1) m 63 10 (by decide +kernel) (by decide), show (bl sg1).set 63 (UInt8.ofNat 10) = bl sgb by decide +kernel]
theorem sz63 (m : Nat) : 63 < (byC (bl sg1) m).size := by rw [byC_size]; exact Nat.lt_add_right _ (by decide +kernel)
theorem run_x {ρ : Operand → Value} {x y : Operand} {w : World} {dst : Option Tmp} {ty : TypeId} {pos : String} {aft : Array Edge} {gd : Option (Nat × Bool)} (hx : ρ x = iN .u8 11) (hy : ρ y = iN .u8 1) : (execOp ρ ⟨dst, .binOp .xor 5 x y 5, ty, pos, aft, gd⟩).run Tryd.prog w = .ok (.value (iN .u8 10)) w := by
  simp only [execOp, hx, hy]
  kernel_rfl
theorem pub2 (w : World) (VV : VA w) : Calls Tryd.prog 8 #[.string sd2] w fun e w' => e = .returned (.tuple #[.string pk2, iN .i64 0]) ∧ Below w.heap.size w w' := by
  rw [← pk2_is]
  exact Public_yes sd2 rfl w VV
theorem sig2 (w : World) (VV : VA w) : Calls Tryd.prog 9 #[.string sd2, .string cS] w fun e w' => e = .returned (.tuple #[.string sg2, iN .i64 0]) ∧ Below w.heap.size w w' := by
  rw [← sg2_is]
  exact Sign_yes sd2 cS rfl (by decide) w VV

def zSg8_0  (zx5 zx6 zx7 : Value) (zt : List Value) := (.bool false :: .string pk1 :: iN .i64 0 :: .string sg1 :: iN .i64 0 :: zx5 :: zx6 :: zx7 :: un :: un :: un :: un :: un :: un :: un :: .tuple #[.string pk1, iN .i64 0] :: .string sd1 :: .tuple #[.string pk1, iN .i64 0] :: .string pk1 :: iN .i64 0 :: .tuple #[.string sg1, iN .i64 0] :: .string sd1 :: .tuple #[.string sg1, iN .i64 0] :: .string sg1 :: iN .i64 0 :: zt : List Value)
def zSg8_1 q9 cp10 (zx0 zx10 zx11 zx12 zx13 zx14 : Value) (zt : List Value) := (zx0 :: .string pk1 :: iN .i64 0 :: .string sg1 :: iN .i64 0 :: .slice (some ⟨q9, 0, none⟩) sg1.size cp10 :: .string ({ data := #[] }) :: iN .i64 8 :: .string ({ data := #[] }) :: iN .i64 8 :: zx10 :: zx11 :: zx12 :: zx13 :: zx14 :: .tuple #[.string pk1, iN .i64 0] :: .string sd1 :: .tuple #[.string pk1, iN .i64 0] :: .string pk1 :: iN .i64 0 :: .tuple #[.string sg1, iN .i64 0] :: .string sd1 :: .tuple #[.string sg1, iN .i64 0] :: .string sg1 :: iN .i64 0 :: .string sg1 :: .slice (some ⟨q9, 0, none⟩) sg1.size cp10 :: .slice (some ⟨q9, 0, none⟩) sg1.size cp10 :: .slice (some ⟨q9, 0, none⟩) sg1.size cp10 :: .pointer (some ⟨q9, 63, none⟩) :: iN .u8 11 :: iN .u8 10 :: .pointer (some ⟨q9, 63, none⟩) :: .tuple #[.string ({ data := #[] }), iN .i64 8] :: .string sd1 :: .string (sd1.extract 0 31) :: .tuple #[.string ({ data := #[] }), iN .i64 8] :: .string ({ data := #[] }) :: iN .i64 8 :: .tuple #[.string ({ data := #[] }), iN .i64 8] :: .string sd1 :: .string (sd1 ++ xS) :: .tuple #[.string ({ data := #[] }), iN .i64 8] :: .string ({ data := #[] }) :: iN .i64 8 :: zt : List Value)
set_option linter.unusedVariables false in
set_option maxRecDepth 100000 in
set_option maxHeartbeats 2000000 in
theorem SignKnown_any (w : World) (VV : VA w) :
    Calls Tryd.prog 6 #[] w fun e w' => e = .returned (.bool true) ∧ Below w.heap.size w w' := by
  have H0 := HA.start w
  go_enter Tryd.func6, Tryd.ntmps6
  refine wp_seq ?_
  refine wl_region ?_
  refine wl_val (.bool false) (by kernel_rfl) (by kernel_rfl) ?_
  refine wl_nil ?_
  refine then_at (F := ⟨(.bool false :: List.replicate 100 un).toArray, []⟩) (by kernel_rfl) ?_
  refine wp_seq ?_
  refine wl_region ?_
  refine wl_call (v := .string sd1) H0 (by kernel_rfl) ent21 #[] (by kernel_rfl) (seed_any w) ?_
  intro w1 h2
  refine wl_call (v := .tuple #[.string pk1, iN .i64 0]) h2 (by kernel_rfl) ent8 #[.string sd1] (by kernel_rfl) (pub1 w1 (VV.below h2.old VV.big)) ?_
  intro w3 h4
  refine wl_val (.tuple #[.string pk1, iN .i64 0]) (by kernel_rfl) (by kernel_rfl) ?_
  refine wl_val (.string pk1) (by kernel_rfl) (by kernel_rfl) ?_
  refine wl_val (iN .i64 0) (by kernel_rfl) (by kernel_rfl) ?_
  refine wl_val (.string pk1) (by kernel_rfl) (by kernel_rfl) ?_
  refine wl_val (iN .i64 0) (by kernel_rfl) (by kernel_rfl) ?_
  refine wl_nil ?_
  refine then_at (F := ⟨(.bool false :: .string pk1 :: iN .i64 0 :: un :: un :: un :: un :: un :: un :: un :: un :: un :: un :: un :: un :: .tuple #[.string pk1, iN .i64 0] :: .string sd1 :: .tuple #[.string pk1, iN .i64 0] :: .string pk1 :: iN .i64 0 :: List.replicate 81 un).toArray, []⟩) (by kernel_rfl) ?_
  refine wp_seq ?_
  refine wl_region ?_
  refine wl_call (v := .string sd1) h4 (by kernel_rfl) ent21 #[] (by kernel_rfl) (seed_any w3) ?_
  intro w5 h6
  refine wl_call (v := .tuple #[.string sg1, iN .i64 0]) h6 (by kernel_rfl) ent9 #[.string sd1, .string eS] (by kernel_rfl) (sig1 w5 (VV.below h6.old VV.big)) ?_
  intro w7 h8
  refine wl_val (.tuple #[.string sg1, iN .i64 0]) (by kernel_rfl) (by kernel_rfl) ?_
  refine wl_val (.string sg1) (by kernel_rfl) (by kernel_rfl) ?_
  refine wl_val (iN .i64 0) (by kernel_rfl) (by kernel_rfl) ?_
  refine wl_val (.string sg1) (by kernel_rfl) (by kernel_rfl) ?_
  refine wl_val (iN .i64 0) (by kernel_rfl) (by kernel_rfl) ?_
  refine wl_nil ?_
  refine then_at (F := ⟨(zSg8_0 un un un (List.replicate 76 un)).toArray, []⟩) (by kernel_rfl) ?_
  refine wp_seq ?_
  refine wl_region ?_
  refine wl_val (.string sg1) (by kernel_rfl) (by kernel_rfl) ?_
  refine wl_bytes (s := sg1) h8 (by kernel_rfl) (by kernel_rfl) ?_
  intro q9 cp10 m11 w12 h13
  refine wl_val (.slice (some ⟨q9, 0, none⟩) sg1.size cp10) (by kernel_rfl) (by kernel_rfl) ?_
  refine wl_nil ?_
  refine then_at (F := ⟨(zSg8_0 (.slice (some ⟨q9, 0, none⟩) sg1.size cp10) un un (.string sg1 :: .slice (some ⟨q9, 0, none⟩) sg1.size cp10 :: List.replicate 74 un)).toArray, []⟩) (by kernel_rfl) ?_
  refine wp_seq ?_
  refine wl_region ?_
  refine wl_val (.slice (some ⟨q9, 0, none⟩) sg1.size cp10) (by kernel_rfl) (by kernel_rfl) ?_
  refine wl_val (.slice (some ⟨q9, 0, none⟩) sg1.size cp10) (by kernel_rfl) (by kernel_rfl) ?_
  refine wl_val (.pointer (some ⟨q9, 63, none⟩)) (by kernel_rfl) (run_addr_slice (q := q9) (n := sg1.size) (m := cp10) (a := 63) Tryd.underlying27 (fun w => Tryd.sizeOf5 w) (by kernel_rfl) (by kernel_rfl) (by decide +kernel)) ?_
  refine wl_val (iN .u8 11) (by kernel_rfl) (run_load1 (fun w => Tryd.isAgg5 w) (by kernel_rfl) (((h13.get 0 rfl).cell 63).trans (get63 m11))) ?_
  refine wl_val (iN .u8 10) (by kernel_rfl) (run_x (by kernel_rfl) (by kernel_rfl)) ?_
  refine wl_val (.pointer (some ⟨q9, 63, none⟩)) (by kernel_rfl) (run_addr_slice (q := q9) (n := sg1.size) (m := cp10) (a := 63) Tryd.underlying27 (fun w => Tryd.sizeOf5 w) (by kernel_rfl) (by kernel_rfl) (by decide +kernel)) ?_
  refine wl_put (k := .u8) (z := ((10 : Nat) : Int)) h13 0 rfl 63 (sz63 m11) (by kernel_rfl) (fun w => Tryd.sizeOf5 w) (by kernel_rfl) (by kernel_rfl) ?_
  intro w14 h15
  have h16 : HA w [(q9, 5, byC (bl sgb) m11)] w14 := (by rw [← put63 m11]; exact h15)
  clear h15
  refine wl_nil ?_
  refine then_at (F := ⟨(zSg8_0 (.slice (some ⟨q9, 0, none⟩) sg1.size cp10) un un (.string sg1 :: .slice (some ⟨q9, 0, none⟩) sg1.size cp10 :: .slice (some ⟨q9, 0, none⟩) sg1.size cp10 :: .slice (some ⟨q9, 0, none⟩) sg1.size cp10 :: .pointer (some ⟨q9, 63, none⟩) :: iN .u8 11 :: iN .u8 10 :: .pointer (some ⟨q9, 63, none⟩) :: List.replicate 68 un)).toArray, []⟩) (by kernel_rfl) ?_
  refine wp_seq ?_
  refine wl_region ?_
  refine wl_call (v := .string sd1) h16 (by kernel_rfl) ent21 #[] (by kernel_rfl) (seed_any w14) ?_
  intro w17 h18
  refine wl_val (.string (sd1.extract 0 31)) (by kernel_rfl) (Sc.run_cut_hi (s := sd1) (b := 31) (by kernel_rfl) (by kernel_rfl) (by decide +kernel)) ?_
  refine wl_call (v := .tuple #[.string ({ data := #[] }), iN .i64 8]) h18 (by kernel_rfl) ent8 #[.string (sd1.extract 0 31)] (by kernel_rfl) (Public_no (sd1.extract 0 31) (by decide +kernel) w17) ?_
  intro w19 h20
  refine wl_val (.tuple #[.string ({ data := #[] }), iN .i64 8]) (by kernel_rfl) (by kernel_rfl) ?_
  refine wl_val (.string ({ data := #[] })) (by kernel_rfl) (by kernel_rfl) ?_
  refine wl_val (iN .i64 8) (by kernel_rfl) (by kernel_rfl) ?_
  refine wl_val (.string ({ data := #[] })) (by kernel_rfl) (by kernel_rfl) ?_
  refine wl_val (iN .i64 8) (by kernel_rfl) (by kernel_rfl) ?_
  refine wl_nil ?_
  refine then_at (F := ⟨(zSg8_0 (.slice (some ⟨q9, 0, none⟩) sg1.size cp10) (.string ({ data := #[] })) (iN .i64 8) (.string sg1 :: .slice (some ⟨q9, 0, none⟩) sg1.size cp10 :: .slice (some ⟨q9, 0, none⟩) sg1.size cp10 :: .slice (some ⟨q9, 0, none⟩) sg1.size cp10 :: .pointer (some ⟨q9, 63, none⟩) :: iN .u8 11 :: iN .u8 10 :: .pointer (some ⟨q9, 63, none⟩) :: .tuple #[.string ({ data := #[] }), iN .i64 8] :: .string sd1 :: .string (sd1.extract 0 31) :: .tuple #[.string ({ data := #[] }), iN .i64 8] :: .string ({ data := #[] }) :: iN .i64 8 :: List.replicate 62 un)).toArray, []⟩) (by kernel_rfl) ?_
  refine wp_seq ?_
  refine wl_region ?_
  refine wl_call (v := .string sd1) h20 (by kernel_rfl) ent21 #[] (by kernel_rfl) (seed_any w19) ?_
  intro w21 h22
  refine wl_val (.string (sd1 ++ xS)) (by kernel_rfl) (run_cat (s := sd1) (t := xS) (by kernel_rfl) (by kernel_rfl) (by decide +kernel)) ?_
  refine wl_call (v := .tuple #[.string ({ data := #[] }), iN .i64 8]) h22 (by kernel_rfl) ent9 #[.string (sd1 ++ xS), .string eS] (by kernel_rfl) (Sign_no ((sd1 ++ xS)) eS (by decide +kernel) w21) ?_
  intro w23 h24
  refine wl_val (.tuple #[.string ({ data := #[] }), iN .i64 8]) (by kernel_rfl) (by kernel_rfl) ?_
  refine wl_val (.string ({ data := #[] })) (by kernel_rfl) (by kernel_rfl) ?_
  refine wl_val (iN .i64 8) (by kernel_rfl) (by kernel_rfl) ?_
  refine wl_val (.string ({ data := #[] })) (by kernel_rfl) (by kernel_rfl) ?_
  refine wl_val (iN .i64 8) (by kernel_rfl) (by kernel_rfl) ?_
  refine wl_nil ?_
  refine then_at (F := ⟨(zSg8_1 q9 cp10 (.bool false) un un un un un (List.replicate 56 un)).toArray, []⟩) (by kernel_rfl) ?_
  refine wp_seq ?_
  refine wl_region ?_
  refine wl_call (v := .string sd2) h24 (by kernel_rfl) ent22 #[.string sdx2] (by kernel_rfl) (sdx2_hex w23) ?_
  intro w25 h26
  refine wl_val (.string sd2) (by kernel_rfl) (by kernel_rfl) ?_
  refine wl_nil ?_
  refine then_at (F := ⟨(zSg8_1 q9 cp10 (.bool false) (.string sd2) un un un un (.string sd2 :: List.replicate 55 un)).toArray, []⟩) (by kernel_rfl) ?_
  refine wp_seq ?_
  refine wl_region ?_
  refine wl_val (.string sd2) (by kernel_rfl) (by kernel_rfl) ?_
  refine wl_call (v := .tuple #[.string pk2, iN .i64 0]) h26 (by kernel_rfl) ent8 #[.string sd2] (by kernel_rfl) (pub2 w25 (VV.below h26.old VV.big)) ?_
  intro w27 h28
  refine wl_val (.tuple #[.string pk2, iN .i64 0]) (by kernel_rfl) (by kernel_rfl) ?_
  refine wl_val (.string pk2) (by kernel_rfl) (by kernel_rfl) ?_
  refine wl_val (iN .i64 0) (by kernel_rfl) (by kernel_rfl) ?_
  refine wl_val (.string pk2) (by kernel_rfl) (by kernel_rfl) ?_
  refine wl_val (iN .i64 0) (by kernel_rfl) (by kernel_rfl) ?_
  refine wl_nil ?_
  refine then_at (F := ⟨(zSg8_1 q9 cp10 (.bool false) (.string sd2) (.string pk2) (iN .i64 0) un un (.string sd2 :: .tuple #[.string pk2, iN .i64 0] :: .string sd2 :: .tuple #[.string pk2, iN .i64 0] :: .string pk2 :: iN .i64 0 :: List.replicate 50 un)).toArray, []⟩) (by kernel_rfl) ?_
  refine wp_seq ?_
  refine wl_region ?_
  refine wl_val (.string sd2) (by kernel_rfl) (by kernel_rfl) ?_
  refine wl_call (v := .tuple #[.string sg2, iN .i64 0]) h28 (by kernel_rfl) ent9 #[.string sd2, .string cS] (by kernel_rfl) (sig2 w27 (VV.below h28.old VV.big)) ?_
  intro w29 h30
  refine wl_val (.tuple #[.string sg2, iN .i64 0]) (by kernel_rfl) (by kernel_rfl) ?_
  refine wl_val (.string sg2) (by kernel_rfl) (by kernel_rfl) ?_
  refine wl_val (iN .i64 0) (by kernel_rfl) (by kernel_rfl) ?_
  refine wl_val (.string sg2) (by kernel_rfl) (by kernel_rfl) ?_
  refine wl_val (iN .i64 0) (by kernel_rfl) (by kernel_rfl) ?_
  refine wl_nil ?_
  refine then_at (F := ⟨(zSg8_1 q9 cp10 (.bool false) (.string sd2) (.string pk2) (iN .i64 0) (.string sg2) (iN .i64 0) (.string sd2 :: .tuple #[.string pk2, iN .i64 0] :: .string sd2 :: .tuple #[.string pk2, iN .i64 0] :: .string pk2 :: iN .i64 0 :: .tuple #[.string sg2, iN .i64 0] :: .string sd2 :: .tuple #[.string sg2, iN .i64 0] :: .string sg2 :: iN .i64 0 :: List.replicate 45 un)).toArray, []⟩) (by kernel_rfl) ?_
  refine wp_seq ?_
  refine wl_region ?_
  refine wl_val (.bool true) (by kernel_rfl) (by kernel_rfl) ?_
  refine wl_call (v := .bool true) h30 (by kernel_rfl) ent7 #[] (by kernel_rfl) (works_any w29 (VV.below h30.old VV.big)) ?_
  intro w31 h32
  refine wl_val (.bool true) (by kernel_rfl) (by kernel_rfl) ?_
  refine wl_val (.bool true) (by kernel_rfl) (by kernel_rfl) ?_
  refine wl_val (.string pk1) (by kernel_rfl) (by kernel_rfl) ?_
  refine wl_val (.slice (some ⟨q9, 0, none⟩) sg1.size cp10) (by kernel_rfl) (by kernel_rfl) ?_
  refine wl_val (.string sgb) (by kernel_rfl) (run_byText (n := sg1.size) (c := cp10) (m := m11) (l := bl sgb) rfl (by kernel_rfl) (h32.get 0 rfl)) ?_
  refine wl_call (v := .bool false) h32 (by kernel_rfl) ent10 #[.string pk1, .string eS, .string sgb] (by kernel_rfl) (Verify_no pk1 eS sgb (by decide +kernel) (by decide +kernel) verb w31 (VV.below h32.old VV.big)) ?_
  intro w33 h34
  refine wl_val (.bool true) (by kernel_rfl) (by kernel_rfl) ?_
  refine wl_val (.bool true) (by kernel_rfl) (by kernel_rfl) ?_
  refine wl_val (.bool true) (by kernel_rfl) (by kernel_rfl) ?_
  refine wl_val (iN .i64 8) (by kernel_rfl) (by kernel_rfl) ?_
  refine wl_val (.bool true) (by kernel_rfl) (run_eqi (k := .i64) (a := 8) (b := 8) (by kernel_rfl) (by kernel_rfl) true (by decide)) ?_
  refine wl_val (.bool true) (by kernel_rfl) (by kernel_rfl) ?_
  refine wl_val (.bool true) (by kernel_rfl) (by kernel_rfl) ?_
  refine wl_val (iN .i64 8) (by kernel_rfl) (by kernel_rfl) ?_
  refine wl_val (.bool true) (by kernel_rfl) (run_eqi (k := .i64) (a := 8) (b := 8) (by kernel_rfl) (by kernel_rfl) true (by decide)) ?_
  refine wl_val (.bool true) (by kernel_rfl) (by kernel_rfl) ?_
  refine wl_val (.bool true) (by kernel_rfl) (by kernel_rfl) ?_
  refine wl_val (iN .i64 0) (by kernel_rfl) (by kernel_rfl) ?_
  refine wl_val (.bool true) (by kernel_rfl) (run_eqi (k := .i64) (a := 0) (b := 0) (by kernel_rfl) (by kernel_rfl) true (by decide)) ?_
  refine wl_val (.bool true) (by kernel_rfl) (by kernel_rfl) ?_
  refine wl_val (.bool true) (by kernel_rfl) (by kernel_rfl) ?_
  refine wl_val (iN .i64 0) (by kernel_rfl) (by kernel_rfl) ?_
  refine wl_val (.bool true) (by kernel_rfl) (run_eqi (k := .i64) (a := 0) (b := 0) (by kernel_rfl) (by kernel_rfl) true (by decide)) ?_
  refine wl_val (.bool true) (by kernel_rfl) (by kernel_rfl) ?_
  refine wl_val (.bool true) (by kernel_rfl) (by kernel_rfl) ?_
  refine wl_val (.string pk2) (by kernel_rfl) (by kernel_rfl) ?_
  refine wl_call (v := .string pk2) h34 (by kernel_rfl) ent22 #[.string pkx2] (by kernel_rfl) (pkx2_hex w33) ?_
  intro w35 h36
  refine wl_val (.bool true) (by kernel_rfl) (run_eqs (s := pk2) (t := pk2) (by kernel_rfl) (by kernel_rfl) true (decide_eq_true rfl)) ?_
  refine wl_val (.bool true) (by kernel_rfl) (by kernel_rfl) ?_
  refine wl_val (.bool true) (by kernel_rfl) (by kernel_rfl) ?_
  refine wl_val (.string sg2) (by kernel_rfl) (by kernel_rfl) ?_
  refine wl_call (v := .string sg2) h36 (by kernel_rfl) ent22 #[.string sgx2] (by kernel_rfl) (sgx2_hex w35) ?_
  intro w37 h38
  refine wl_val (.bool true) (by kernel_rfl) (run_eqs (s := sg2) (t := sg2) (by kernel_rfl) (by kernel_rfl) true (decide_eq_true rfl)) ?_
  refine wl_val (.bool true) (by kernel_rfl) (by kernel_rfl) ?_
  refine wl_val (.bool true) (by kernel_rfl) (by kernel_rfl) ?_
  refine wl_val (.string pk2) (by kernel_rfl) (by kernel_rfl) ?_
  refine wl_val (.string sg2) (by kernel_rfl) (by kernel_rfl) ?_
  refine wl_call (v := .bool true) h38 (by kernel_rfl) ent10 #[.string pk2, .string cS, .string sg2] (by kernel_rfl) (Verify_yes pk2 cS sg2 (by decide +kernel) (by decide +kernel) ver2 w37 (VV.below h38.old VV.big)) ?_
  intro w39 h40
  refine wl_val (.bool true) (by kernel_rfl) (by kernel_rfl) ?_
  refine wl_val (.bool true) (by kernel_rfl) (by kernel_rfl) ?_
  refine wl_call (v := .bool false) h40 (by kernel_rfl) ent10 #[.string eS, .string eS, .string eS] (by kernel_rfl) (ver_len eS eS eS (by decide +kernel) (by decide +kernel) (by decide +kernel) w39 (VV.below h40.old VV.big)) ?_
  intro w41 h42
  refine wl_val (.bool true) (by kernel_rfl) (by kernel_rfl) ?_
  refine wl_val (.bool true) (by kernel_rfl) (by kernel_rfl) ?_
  refine wl_val (.bool true) (by kernel_rfl) (by kernel_rfl) ?_
  refine wl_nil ?_
  refine then_at (F := ⟨(zSg8_1 q9 cp10 (.bool true) (.string sd2) (.string pk2) (iN .i64 0) (.string sg2) (iN .i64 0) (.string sd2 :: .tuple #[.string pk2, iN .i64 0] :: .string sd2 :: .tuple #[.string pk2, iN .i64 0] :: .string pk2 :: iN .i64 0 :: .tuple #[.string sg2, iN .i64 0] :: .string sd2 :: .tuple #[.string sg2, iN .i64 0] :: .string sg2 :: iN .i64 0 :: .bool true :: .bool true :: .bool true :: .bool true :: .string pk1 :: .slice (some ⟨q9, 0, none⟩) sg1.size cp10 :: .string sgb :: .bool false :: .bool true :: .bool true :: .bool true :: iN .i64 8 :: .bool true :: .bool true :: .bool true :: iN .i64 8 :: .bool true :: .bool true :: .bool true :: iN .i64 0 :: .bool true :: .bool true :: .bool true :: iN .i64 0 :: .bool true :: .bool true :: .bool true :: .string pk2 :: .string pk2 :: .bool true :: .bool true :: .bool true :: .string sg2 :: .string sg2 :: .bool true :: .bool true :: .bool true :: .string pk2 :: .string sg2 :: .bool true :: .bool true :: .bool true :: .bool false :: .bool true :: .bool true :: [])).toArray, []⟩) (by kernel_rfl) ?_
  refine wp_ret ?_
  repeat first | refine then_ret ?_ | refine block_ret ?_
  exact bodyPost_ret (v := .bool true) (by kernel_rfl) rfl ⟨rfl, h42.old⟩
end Go.Proofs.YtefjnfeckenmkaaDoor
