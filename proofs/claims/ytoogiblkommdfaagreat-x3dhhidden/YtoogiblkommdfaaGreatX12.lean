/-
  X3dhHidden: the law.
-/
import Derived.Test.YtoogiblkommdfaaGreatGJ
set_option linter.unusedVariables false
namespace Go.Proofs.YtoogiblkommdfaaGreat
open Go.RowKit

def TF : List Ent := [.nm 0,
  .mk 3 0 { data := #[] } [0] 0,
  .nm 1,
  .nm 2,
  .nm 3,
  .mk 3 0 { data := #[] } [2] 0,
  .mk 3 0 { data := #[] } [3] 0,
  .mk 3 0 { data := #[] } [4] 0,
  .dt { data := #[112, 114, 101, 0, 0, 0, 3, 0, 0, 0, 8, 240, 84, 82, 77, 0, 0, 0, 6] },
  .mk 7 0 { data := #[] } [4, 8] 0,
  .nm 4,
  .mk 3 0 { data := #[] } [10] 0,
  .mk 4 0 { data := #[] } [0, 3] 0,
  .mk 4 0 { data := #[] } [2, 10] 0,
  .mk 4 0 { data := #[] } [3, 10] 0,
  .dt { data := #[0, 0, 0, 8, 240, 84, 82, 77, 0, 0, 0, 12, 0, 0, 0, 8, 240, 84, 82, 77, 0, 0, 0, 13, 0, 0, 0, 8, 240, 84, 82, 77, 0, 0, 0, 14] },
  .dt { data := #[0, 0, 0, 8, 240, 84, 82, 77, 0, 0, 0, 1, 0, 0, 0, 8, 240, 84, 82, 77, 0, 0, 0, 5, 0, 0, 0, 8, 240, 84, 82, 77, 0, 0, 0, 11] },
  .mk 5 0 { data := #[120, 51, 100, 104, 0] } [15, 16] 0]
def tF (k : Nat) : List Ent := TF.take k
theorem tF_lt (k : Nat) : (tF k).length < 50000 := Nat.lt_of_le_of_lt (List.length_take_le' _ _) (by decide)
theorem Fq0 : frA (tF 0) = (tF 1) := by kernel_rfl
theorem Fq1 : (tF 0).length = 0 := by kernel_rfl
theorem Fq2 : mkA (tF 1) 3 { data := #[] } [txt 0] = ((tF 2), 1) := by kernel_rfl
theorem Fq3 : frA (tF 2) = (tF 3) := by kernel_rfl
theorem Fq4 : (tF 2).length = 2 := by kernel_rfl
theorem Fq5 : frA (tF 3) = (tF 4) := by kernel_rfl
theorem Fq6 : (tF 3).length = 3 := by kernel_rfl
theorem Fq7 : frA (tF 4) = (tF 5) := by kernel_rfl
theorem Fq8 : (tF 4).length = 4 := by kernel_rfl
theorem Fq9 : mkA (tF 5) 3 { data := #[] } [txt 2] = ((tF 6), 5) := by kernel_rfl
theorem Fq10 : mkA (tF 6) 3 { data := #[] } [txt 3] = ((tF 7), 6) := by kernel_rfl
theorem Fq11 : mkA (tF 7) 3 { data := #[] } [txt 4] = ((tF 8), 7) := by kernel_rfl
theorem Fq12 : mkA (tF 8) 3 { data := #[] } [txt 4] = ((tF 8), 7) := by kernel_rfl
theorem Fq13 : mkA (tF 8) 7 { data := #[] } [txt 4, sg3 (txt 6)] = ((tF 10), 9) := by kernel_rfl
theorem Fq14 : mayX (mkB 1 1 ((txt 7)) ((txt 5)) 3 ((txt 6)) ((txt 9)) 0 ({ data := #[] })) = true := by kernel_rfl
theorem Fq15 : decide ((mkB 1 1 ((txt 7)) ((txt 5)) 3 ((txt 6)) ((txt 9)) 0 ({ data := #[] })) = bare (mkB 1 1 ((txt 7)) ((txt 5)) 3 ((txt 6)) ((txt 9)) 0 ({ data := #[] }))) = true := by kernel_rfl
theorem Fq16 : vrfA (tF 10) (txt 7) (sgT (mkB 1 1 ((txt 7)) ((txt 5)) 3 ((txt 6)) ((txt 9)) 0 ({ data := #[] }))) (txt 9) = true := by kernel_rfl
theorem Fq17 : mkA (tF 10) 3 { data := #[] } [txt 0] = ((tF 10), 1) := by kernel_rfl
theorem Fq18 : mkA (frA (tF 10)) 3 { data := #[] } [txt (tF 10).length] = ((tF 12), 11) := by kernel_rfl
theorem Fq19 : mkA (tF 12) 4 { data := #[] } [txt 0, txt 6] = ((tF 13), 12) := by kernel_rfl
theorem Fq20 : mkA (tF 13) 4 { data := #[] } [txt (tF 10).length, txt 5] = ((tF 14), 13) := by kernel_rfl
theorem Fq21 : mkA (tF 14) 4 { data := #[] } [txt (tF 10).length, txt 6] = ((tF 15), 14) := by kernel_rfl
theorem Fq22 : dv (tF 15) (layT (shr [12, 13, 14] 3) 3) (layT [txt 1, txt 5, txt 11] 3) x3I 1 = ((tF 18), [txt 17]) := by kernel_rfl
theorem made_F {w0 w : World} {M : ML} {p : Pr} {n : Nat} {L : BL} (H : PH w0 M p (tF 2) n L w) (hj : n < 1000) :
    Calls Tryz.prog 34 #[pt p.q, .agg #[.string { data := #[] }, .string { data := #[] }, .string { data := #[] }, .string { data := #[] }], .bool false] w fun e w' => e = .returned (.tuple #[.agg (dvC ((txt 2)) ((txt 3)) ({ data := #[] }) ((txt 5)) (mkB 1 1 ((txt 7)) ((txt 5)) 3 ((txt 6)) ((txt 9)) 0 ({ data := #[] }))), .bool true]) ∧ PH w0 M p (tF 10) (n + 1) L w' :=
  made_f H Fq3 Fq4 Fq5 Fq6 Fq7 Fq8 Fq9 Fq10 Fq11 Fq12 Fq13 (tF_lt 2) (tF_lt 3) (tF_lt 4) (tF_lt 5) (tF_lt 6) (tF_lt 7) (tF_lt 8) hj
theorem begin_F {w0 w : World} {M : ML} {p : Pr} {n : Nat} {L : BL} (H : PH w0 M p (tF 10) n L w) (hj : n < 1000) :
    Calls Tryz.prog 27 #[pt p.q, .string (txt 0), .agg (buC (mkB 1 1 ((txt 7)) ((txt 5)) 3 ((txt 6)) ((txt 9)) 0 ({ data := #[] }))), .string { data := #[] }] w fun e w' => e = .returned (.tuple #[.string (txt 17), .string (txt 11), iN .i64 0]) ∧ PH w0 M p (tF 18) (n + 1) L w' :=
  beg_3 H (txt 0) (mkB 1 1 ((txt 7)) ((txt 5)) 3 ((txt 6)) ((txt 9)) 0 ({ data := #[] })) { data := #[] } (txM _) Fq14 (mayX_iff Fq14) Fq15 Fq16 (by omega) (tF_lt 10) Fq17 (tF_lt 10) Fq18 [(tF 12), (tF 13), (tF 14), (tF 15)] [12, 13, 14] rfl (by intro j hj; match j, hj with | 0, _ => exact tF_lt _ | 1, _ => exact tF_lt _ | 2, _ => exact tF_lt _ | 3, _ => exact tF_lt _) (by intro j hj; match j, hj with | 0, _ => exact Fq19 | 1, _ => exact Fq20 | 2, _ => exact Fq21) Fq22
theorem encA_y {x : Bu} (hx : mayX x = true) : encA x = (encB x, 0) := by unfold encA; rw [hx]; rfl
theorem len_W : (tW 21).length = 21 := by kernel_rfl
theorem wth_W : wth 21 (txt 20) = [20] := by rw [wth_2]; kernel_rfl
theorem siz_W : (encB (mkB 1 1 ((txt 7)) ((txt 5)) 3 ((txt 6)) ((txt 9)) 9 ((txt 11)))).size ≤ 1000 := Nat.le_of_ble_eq_true ky
theorem kn0_W : (knownF (tW 21) [txt 1, encB (mkB 1 1 ((txt 7)) ((txt 5)) 3 ((txt 6)) ((txt 9)) 9 ((txt 11))), txt 13]).getD 20 true = false := by
  rw [known_2 len_W (ss := [txt 1, encB (mkB 1 1 ((txt 7)) ((txt 5)) 3 ((txt 6)) ((txt 9)) 9 ((txt 11))), txt 13]) rfl rfl rfl]
  kernel_rfl
theorem sz0_W : ∀ s ∈ ([txt 1, encB (mkB 1 1 ((txt 7)) ((txt 5)) 3 ((txt 6)) ((txt 9)) 9 ((txt 11))), txt 13] : List ByteArray), s.size ≤ 1000 := by
  intro s hs
  simp only [List.mem_cons, List.not_mem_nil, or_false] at hs
  rcases hs with rfl | rfl | rfl
  · rw [txt_size]; decide
  · exact siz_W
  · rw [txt_size]; decide
theorem kn1_W : (knownF (tW 21) [txt 1, encB (mkB 1 1 ((txt 7)) ((txt 5)) 3 ((txt 6)) ((txt 9)) 9 ((txt 11))), txt 13, txt 0, txt 2]).getD 20 true = false := by
  rw [known_2 len_W (ss := [txt 1, encB (mkB 1 1 ((txt 7)) ((txt 5)) 3 ((txt 6)) ((txt 9)) 9 ((txt 11))), txt 13, txt 0, txt 2]) rfl rfl rfl]
  kernel_rfl
theorem sz1_W : ∀ s ∈ ([txt 1, encB (mkB 1 1 ((txt 7)) ((txt 5)) 3 ((txt 6)) ((txt 9)) 9 ((txt 11))), txt 13, txt 0, txt 2] : List ByteArray), s.size ≤ 1000 := by
  intro s hs
  simp only [List.mem_cons, List.not_mem_nil, or_false] at hs
  rcases hs with rfl | rfl | rfl | rfl | rfl
  · rw [txt_size]; decide
  · exact siz_W
  · rw [txt_size]; decide
  · rw [txt_size]; decide
  · rw [txt_size]; decide
theorem kn2_W : (knownF (tW 21) [txt 1, encB (mkB 1 1 ((txt 7)) ((txt 5)) 3 ((txt 6)) ((txt 9)) 9 ((txt 11))), txt 13, txt 0, txt 2, txt 3]).getD 20 true = false := by
  rw [known_2 len_W (ss := [txt 1, encB (mkB 1 1 ((txt 7)) ((txt 5)) 3 ((txt 6)) ((txt 9)) 9 ((txt 11))), txt 13, txt 0, txt 2, txt 3]) rfl rfl rfl]
  kernel_rfl
theorem sz2_W : ∀ s ∈ ([txt 1, encB (mkB 1 1 ((txt 7)) ((txt 5)) 3 ((txt 6)) ((txt 9)) 9 ((txt 11))), txt 13, txt 0, txt 2, txt 3] : List ByteArray), s.size ≤ 1000 := by
  intro s hs
  simp only [List.mem_cons, List.not_mem_nil, or_false] at hs
  rcases hs with rfl | rfl | rfl | rfl | rfl | rfl
  · rw [txt_size]; decide
  · exact siz_W
  · rw [txt_size]; decide
  · rw [txt_size]; decide
  · rw [txt_size]; decide
  · rw [txt_size]; decide
theorem kn3_W : (knownF (tW 21) [txt 1, encB (mkB 1 1 ((txt 7)) ((txt 5)) 3 ((txt 6)) ((txt 9)) 9 ((txt 11))), txt 13, txt 0, txt 2, txt 3, txt 10]).getD 20 false = true := by
  rw [known_2 len_W (ss := [txt 1, encB (mkB 1 1 ((txt 7)) ((txt 5)) 3 ((txt 6)) ((txt 9)) 9 ((txt 11))), txt 13, txt 0, txt 2, txt 3, txt 10]) rfl rfl rfl]
  kernel_rfl
theorem sz3_W : ∀ s ∈ ([txt 1, encB (mkB 1 1 ((txt 7)) ((txt 5)) 3 ((txt 6)) ((txt 9)) 9 ((txt 11))), txt 13, txt 0, txt 2, txt 3, txt 10] : List ByteArray), s.size ≤ 1000 := by
  intro s hs
  simp only [List.mem_cons, List.not_mem_nil, or_false] at hs
  rcases hs with rfl | rfl | rfl | rfl | rfl | rfl | rfl
  · rw [txt_size]; decide
  · exact siz_W
  · rw [txt_size]; decide
  · rw [txt_size]; decide
  · rw [txt_size]; decide
  · rw [txt_size]; decide
  · rw [txt_size]; decide
set_option maxRecDepth 100000 in
set_option maxHeartbeats 8000000 in
theorem hidden_W {w : World} {m0 : Int} (hv : w.cell? ⟨0, 0, none⟩ = some (.int .i64 m0)) :
    Calls Tryz.prog 6 #[.bool true] w fun e w' => e = .returned (.bool true) ∧ Below w.heap.size w w' := by
  have H0 : HA ⟨w, []⟩ [] w := HA.start w
  go_enter Tryz.func6, Tryz.ntmps6
  refine wp_seq (wl_region ?_)
  refine zv (.bool false) ?_
  refine wl_nil (then_at rfl (wp_seq (wp_seq (wl_region ?_))))
  refine wl_call (v := .bool true) H0 ky enter14 #[] ky (works_P w) ?_
  intro w1 h2
  refine zv (.bool false) ?_
  refine wl_nil (then_at rfl ?_)
  refine wp_cond_false ky ?_
  refine wp_skip (then_at rfl (wp_seq (wl_region ?_)))
  refine wl_callx ky enter15 #[iN .i64 1] ky (New_P h2) ?_
  rintro _ w5 ⟨p3, rfl, hD4⟩
  refine ⟨_, rfl, ?_⟩
  obtain ⟨z6, X7, hcl8, hbe9, h10⟩ := PH.front hD4
  have h11 : HA z6 X7 w5 := h10
  refine zv (.tuple #[.pointer (some ⟨p3.q, 0, none⟩), iN .i64 0]) ?_
  refine zv (.pointer (some ⟨p3.q, 0, none⟩)) ?_
  refine zv (iN .i64 0) ?_
  refine zv (.pointer (some ⟨p3.q, 0, none⟩)) ?_
  refine zv (iN .i64 0) ?_
  refine wl_nil (then_at rfl (wp_seq (wl_region ?_)))
  refine zv (.pointer (some ⟨p3.q, 0, none⟩)) ?_
  refine wl_callx ky enter18 #[.pointer (some ⟨p3.q, 0, none⟩), .string ({ data := #[] })] ky (Secret_E (hcl8 ([]) _ h11) { data := #[] } (Nat.lt_of_lt_of_le (tW_lt 0) (by decide)) Wq0 Wq1) ?_
  rintro _ w13 ⟨rfl, hD12⟩
  refine ⟨_, rfl, ?_⟩
  obtain ⟨z14, X15, hcl16, hbe17, h18⟩ := PH.front hD12
  have h19 : HA z14 X15 w13 := h18
  refine zv (.string ((txt 0))) ?_
  refine wl_nil (then_at rfl (wp_seq (wl_region ?_)))
  refine zv (.pointer (some ⟨p3.q, 0, none⟩)) ?_
  refine zv (.string ((txt 0))) ?_
  refine wl_callx ky enter33 #[.pointer (some ⟨p3.q, 0, none⟩), .string ((txt 0))] ky (Public_E (hcl16 ([]) _ h19) (txt 0) (txL _) (Nat.lt_of_lt_of_le (tW_lt 1) (by decide)) Wq2) ?_
  rintro _ w21 ⟨rfl, hD20⟩
  refine ⟨_, rfl, ?_⟩
  obtain ⟨z22, X23, hcl24, hbe25, h26⟩ := PH.front hD20
  have h27 : HA z22 X23 w21 := h26
  refine zv (.tuple #[.string ((txt 1)), iN .i64 0]) ?_
  refine zv (.string ((txt 1))) ?_
  refine zv (iN .i64 0) ?_
  refine zv (.string ((txt 1))) ?_
  refine zv (iN .i64 0) ?_
  refine wl_nil (then_at rfl (wp_seq (wl_region ?_)))
  refine zv (.pointer (some ⟨p3.q, 0, none⟩)) ?_
  refine zv (.agg #[.string ({ data := #[] }), .string ({ data := #[] }), .string ({ data := #[] }), .string ({ data := #[] })]) ?_
  refine zv (.bool true) ?_
  refine wl_callx ky enter34 #[.pointer (some ⟨p3.q, 0, none⟩), .agg #[.string ({ data := #[] }), .string ({ data := #[] }), .string ({ data := #[] }), .string ({ data := #[] })], .bool true] ky (made_W (hcl24 ([]) _ h27) (by decide)) ?_
  rintro _ w29 ⟨rfl, hD28⟩
  refine ⟨_, rfl, ?_⟩
  obtain ⟨z30, X31, hcl32, hbe33, h34⟩ := PH.front hD28
  have h35 : HA z30 X31 w29 := h34
  refine zv (.tuple #[.agg (dvC ((txt 2)) ((txt 3)) ((txt 10)) ((txt 5)) (mkB 1 1 ((txt 7)) ((txt 5)) 3 ((txt 6)) ((txt 9)) 9 ((txt 11)))), .bool true]) ?_
  refine zv (.agg (dvC ((txt 2)) ((txt 3)) ((txt 10)) ((txt 5)) (mkB 1 1 ((txt 7)) ((txt 5)) 3 ((txt 6)) ((txt 9)) 9 ((txt 11))))) ?_
  refine zv (.bool true) ?_
  refine wl_make (c := dvC ({ data := #[] }) ({ data := #[] }) ({ data := #[] }) ({ data := #[] }) (mkB 0 0 ({ data := #[] }) ({ data := #[] }) 0 ({ data := #[] }) ({ data := #[] }) 0 ({ data := #[] }))) h35 77 ky ky ?_
  intro q36 w37 (h38 : HA z30 ((q36, 77, dvC ({ data := #[] }) ({ data := #[] }) ({ data := #[] }) ({ data := #[] }) (mkB 0 0 ({ data := #[] }) ({ data := #[] }) 0 ({ data := #[] }) ({ data := #[] }) 0 ({ data := #[] }))) :: X31) w37)
  refine wl_fill (c' := dvC ((txt 2)) ((txt 3)) ((txt 10)) ((txt 5)) (mkB 1 1 ((txt 7)) ((txt 5)) 3 ((txt 6)) ((txt 9)) 9 ((txt 11)))) h38 0 rfl ky ky ky rfl ky ky ?_
  intro w39 (h40 : HA z30 ((q36, 77, dvC ((txt 2)) ((txt 3)) ((txt 10)) ((txt 5)) (mkB 1 1 ((txt 7)) ((txt 5)) 3 ((txt 6)) ((txt 9)) 9 ((txt 11)))) :: X31) w39)
  refine zv (.bool true) ?_
  refine wl_nil (then_at rfl (wp_seq (wl_region ?_)))
  refine zv (.pointer (some ⟨p3.q, 0, none⟩)) ?_
  refine zv (.string ((txt 0))) ?_
  refine zv (.pointer (some ⟨q36, 4, none⟩)) ?_
  refine zu (.agg (buC (mkB 1 1 ((txt 7)) ((txt 5)) 3 ((txt 6)) ((txt 9)) 9 ((txt 11))))) (run_load_part (q := q36) (off := 4) (d := buC (mkB 1 1 ((txt 7)) ((txt 5)) 3 ((txt 6)) ((txt 9)) 9 ((txt 11)))) ky (h40.get 0 rfl) Tryz.underlying23 rfl ky (by intro j hj; match j, hj with | 0, _ => rfl | 1, _ => rfl | 2, _ => rfl | 3, _ => rfl | 4, _ => rfl | 5, _ => rfl | 6, _ => rfl | 7, _ => rfl | 8, _ => rfl)) ?_
  refine wl_callx ky enter27 #[.pointer (some ⟨p3.q, 0, none⟩), .string ((txt 0)), .agg (buC (mkB 1 1 ((txt 7)) ((txt 5)) 3 ((txt 6)) ((txt 9)) 9 ((txt 11)))), .string ({ data := #[] })] ky (begin_W (hcl32 ((q36, 77, dvC ((txt 2)) ((txt 3)) ((txt 10)) ((txt 5)) (mkB 1 1 ((txt 7)) ((txt 5)) 3 ((txt 6)) ((txt 9)) 9 ((txt 11)))) :: []) _ h40) (by decide)) ?_
  rintro _ w42 ⟨rfl, hD41⟩
  refine ⟨_, rfl, ?_⟩
  obtain ⟨z43, X44, hcl45, hbe46, h47⟩ := PH.front hD41
  have h48 : HA z43 ((q36, 77, dvC ((txt 2)) ((txt 3)) ((txt 10)) ((txt 5)) (mkB 1 1 ((txt 7)) ((txt 5)) 3 ((txt 6)) ((txt 9)) 9 ((txt 11)))) :: X44) w42 := h47
  refine zv (.tuple #[.string ((txt 20)), .string ((txt 13)), iN .i64 0]) ?_
  refine zv (.string ((txt 20))) ?_
  refine zv (.string ((txt 13))) ?_
  refine zv (iN .i64 0) ?_
  refine zv (.string ((txt 20))) ?_
  refine zv (.string ((txt 13))) ?_
  refine zv (iN .i64 0) ?_
  refine wl_nil (then_at rfl (wp_seq (wl_region ?_)))
  refine zv (.pointer (some ⟨q36, 4, none⟩)) ?_
  refine zu (.agg (buC (mkB 1 1 ((txt 7)) ((txt 5)) 3 ((txt 6)) ((txt 9)) 9 ((txt 11))))) (run_load_part (q := q36) (off := 4) (d := buC (mkB 1 1 ((txt 7)) ((txt 5)) 3 ((txt 6)) ((txt 9)) 9 ((txt 11)))) ky (h48.get 0 rfl) Tryz.underlying23 rfl ky (by intro j hj; match j, hj with | 0, _ => rfl | 1, _ => rfl | 2, _ => rfl | 3, _ => rfl | 4, _ => rfl | 5, _ => rfl | 6, _ => rfl | 7, _ => rfl | 8, _ => rfl)) ?_
  refine wl_call (v := .tuple #[.string ((encB (mkB 1 1 ((txt 7)) ((txt 5)) 3 ((txt 6)) ((txt 9)) 9 ((txt 11))))), iN .i64 0]) h48 ky enter10 #[.agg (buC (mkB 1 1 ((txt 7)) ((txt 5)) 3 ((txt 6)) ((txt 9)) 9 ((txt 11))))] ky (enc_E (encA_y Wq17)) ?_
  intro w49 h50
  refine zv (.tuple #[.string ((encB (mkB 1 1 ((txt 7)) ((txt 5)) 3 ((txt 6)) ((txt 9)) 9 ((txt 11))))), iN .i64 0]) ?_
  refine zv (.string ((encB (mkB 1 1 ((txt 7)) ((txt 5)) 3 ((txt 6)) ((txt 9)) 9 ((txt 11)))))) ?_
  refine zv (iN .i64 0) ?_
  refine zv (.string ((encB (mkB 1 1 ((txt 7)) ((txt 5)) 3 ((txt 6)) ((txt 9)) 9 ((txt 11)))))) ?_
  refine zv (iN .i64 0) ?_
  refine wl_nil (then_at rfl (wp_seq (wl_region ?_)))
  refine zv (.pointer (some ⟨p3.q, 0, none⟩)) ?_
  have hDx := (hcl45 ((q36, 77, dvC ((txt 2)) ((txt 3)) ((txt 10)) ((txt 5)) (mkB 1 1 ((txt 7)) ((txt 5)) 3 ((txt 6)) ((txt 9)) 9 ((txt 11)))) :: []) _ h50)
  obtain ⟨es, hz, hok, hT⟩ := PH.tv hDx
  have hes : es.length = 21 := by rw [← Z_len es, hz]; exact len_W
  refine wl_callx ky enter35 #[pt p3.q] ky (Table_P hDx hT hok.wf.few (by omega)) ?_
  rintro _ wT ⟨tc, rfl, hTc, hbT⟩
  refine ⟨_, rfl, ?_⟩
  have h51 := HA.keep _ _ h50 hbT
  have hb4 := h51.get 0 rfl
  have hbw : Below w.heap.size w wT := hbe46 _ _ h51
  have hvT := cell_below hbw hv
  have HT := HA.start wT
  refine zv (.pointer (some ⟨tc.q, 0, none⟩)) ?_
  refine wl_nil (then_at rfl (wp_seq (wl_region ?_)))
  refine zv (.pointer (some ⟨tc.q, 0, none⟩)) ?_
  refine zv (.string ((txt 20))) ?_
  refine wl_callx ky enter36 #[.pointer (some ⟨tc.q, 0, none⟩), .string ((txt 20))] ky (Within_E (hTc.keep HT.old.old) (by omega) (cell_below HT.old.old hvT) ((txt 20)) (by rw [txt_size]; decide) (x := 20) (by rw [hes]; exact wth_W)) ?_
  rintro _ w59 ⟨q52, c53, c54, rfl, hl55, hk56, hc57, hb58⟩
  refine ⟨_, rfl, ?_⟩
  have h60 := HA.addNew HT hb58 hl55 hk56
  refine zv (.slice (some ⟨q52, 0, none⟩) 1 c54) ?_
  refine wl_nil (then_at rfl (wp_seq (wp_seq (wl_region ?_))))
  refine zv (.bool true) ?_
  refine zv (.bool false) ?_
  refine zv (.bool false) ?_
  refine zv (iN .i64 0) ?_
  refine zv (.bool false) ?_
  refine zv (.bool false) ?_
  refine zv (.bool false) ?_
  refine zv (iN .i64 0) ?_
  refine zv (.bool false) ?_
  refine zv (.bool false) ?_
  refine zv (.bool false) ?_
  refine zv (.slice (some ⟨q52, 0, none⟩) 1 c54) ?_
  refine zv (iN .i64 1) ?_
  refine zu (.bool false) (run_nei (k := .i64) (a := 1) (b := 1) ky ky false (by decide)) ?_
  refine zv (.bool false) ?_
  refine wl_nil (then_at rfl ?_)
  refine wp_cond_false ky ?_
  refine wp_skip (then_at rfl (wp_seq (wl_region ?_)))
  refine zv (.string ((txt 1))) ?_
  refine zv (.string ((encB (mkB 1 1 ((txt 7)) ((txt 5)) 3 ((txt 6)) ((txt 9)) 9 ((txt 11)))))) ?_
  refine zv (.string ((txt 13))) ?_
  refine wl_mks (n := 3) (m := 3) (c := #[.string ((txt 1)), .string ((encB (mkB 1 1 ((txt 7)) ((txt 5)) 3 ((txt 6)) ((txt 9)) 9 ((txt 11))))), .string ((txt 13))]) h60 9 ky ky ?_
  intro q61 w62 (h63 : HA (bs wT) [(q61, 9, #[.string ((txt 1)), .string ((encB (mkB 1 1 ((txt 7)) ((txt 5)) 3 ((txt 6)) ((txt 9)) 9 ((txt 11))))), .string ((txt 13))]), (q52, 3, c53)] w62)
  refine zv (.slice (some ⟨q61, 0, none⟩) 3 3) ?_
  refine wl_nil ?_
  have hc0 : ∀ j, j < 3 → (#[.string ((txt 1)), .string ((encB (mkB 1 1 ((txt 7)) ((txt 5)) 3 ((txt 6)) ((txt 9)) 9 ((txt 11))))), .string ((txt 13))] : Array Value)[j]? = some (.string (([txt 1, encB (mkB 1 1 ((txt 7)) ((txt 5)) 3 ((txt 6)) ((txt 9)) 9 ((txt 11))), txt 13] : List ByteArray).getD j ByteArray.empty)) := fun j hj => by match j, hj with | 0, _ => rfl | 1, _ => rfl | 2, _ => rfl
  have hR0 : Row 9 1 (.slice (some ⟨q61, 0, none⟩) 3 3) 3 (([txt 1, encB (mkB 1 1 ((txt 7)) ((txt 5)) 3 ((txt 6)) ((txt 9)) 9 ((txt 11))), txt 13] : List ByteArray).map Value.string) [(q61, 9, #[.string ((txt 1)), .string ((encB (mkB 1 1 ((txt 7)) ((txt 5)) 3 ((txt 6)) ((txt 9)) 9 ((txt 11))))), .string ((txt 13))])] := ⟨rfl, .inr ⟨_, 3, _, rfl, rfl, Nat.le_refl _, by decide, rfl, rfl⟩⟩
  refine then_at rfl (wp_seq (wp_seq ?_))
  refine wp_region_wx (HA (bs wT) [(q61, 9, #[.string ((txt 1)), .string ((encB (mkB 1 1 ((txt 7)) ((txt 5)) 3 ((txt 6)) ((txt 9)) 9 ((txt 11))))), .string ((txt 13))]), (q52, 3, c53)]) (fun AQ w' => ∃ (kb77 : Nat), AQ = ⟨(.bool true :: un :: .bool false :: pt p3.q :: iN .i64 0 :: .string ((txt 0)) :: .string ((txt 1)) :: iN .i64 0 :: pt q36 :: .bool true :: .string ((txt 20)) :: .string ((txt 13)) :: iN .i64 0 :: .string ((encB (mkB 1 1 ((txt 7)) ((txt 5)) 3 ((txt 6)) ((txt 9)) 9 ((txt 11))))) :: iN .i64 0 :: pt tc.q :: .slice (some ⟨q52, 0, none⟩) 1 c54 :: .slice (some ⟨q61, 0, none⟩) 3 3 :: .bool true :: .bool false :: .tuple #[pt p3.q, iN .i64 0] :: .tuple #[pt p3.q, iN .i64 0] :: pt p3.q :: iN .i64 0 :: pt p3.q :: .string ((txt 0)) :: .tuple #[.string ((txt 1)), iN .i64 0] :: pt p3.q :: .string ((txt 0)) :: .tuple #[.string ((txt 1)), iN .i64 0] :: .string ((txt 1)) :: iN .i64 0 :: .tuple #[.agg (dvC ((txt 2)) ((txt 3)) ((txt 10)) ((txt 5)) (mkB 1 1 ((txt 7)) ((txt 5)) 3 ((txt 6)) ((txt 9)) 9 ((txt 11)))), .bool true] :: pt p3.q :: .agg #[.string ({ data := #[] }), .string ({ data := #[] }), .string ({ data := #[] }), .string ({ data := #[] })] :: .bool true :: .tuple #[.agg (dvC ((txt 2)) ((txt 3)) ((txt 10)) ((txt 5)) (mkB 1 1 ((txt 7)) ((txt 5)) 3 ((txt 6)) ((txt 9)) 9 ((txt 11)))), .bool true] :: .agg (dvC ((txt 2)) ((txt 3)) ((txt 10)) ((txt 5)) (mkB 1 1 ((txt 7)) ((txt 5)) 3 ((txt 6)) ((txt 9)) 9 ((txt 11)))) :: .bool true :: .tuple #[.string ((txt 20)), .string ((txt 13)), iN .i64 0] :: pt p3.q :: .string ((txt 0)) :: .pointer (some ⟨q36, 4, none⟩) :: .agg (buC (mkB 1 1 ((txt 7)) ((txt 5)) 3 ((txt 6)) ((txt 9)) 9 ((txt 11)))) :: .tuple #[.string ((txt 20)), .string ((txt 13)), iN .i64 0] :: .string ((txt 20)) :: .string ((txt 13)) :: iN .i64 0 :: .tuple #[.string ((encB (mkB 1 1 ((txt 7)) ((txt 5)) 3 ((txt 6)) ((txt 9)) 9 ((txt 11))))), iN .i64 0] :: .pointer (some ⟨q36, 4, none⟩) :: .agg (buC (mkB 1 1 ((txt 7)) ((txt 5)) 3 ((txt 6)) ((txt 9)) 9 ((txt 11)))) :: .tuple #[.string ((encB (mkB 1 1 ((txt 7)) ((txt 5)) 3 ((txt 6)) ((txt 9)) 9 ((txt 11))))), iN .i64 0] :: .string ((encB (mkB 1 1 ((txt 7)) ((txt 5)) 3 ((txt 6)) ((txt 9)) 9 ((txt 11))))) :: iN .i64 0 :: pt p3.q :: pt tc.q :: pt tc.q :: .string ((txt 20)) :: .slice (some ⟨q52, 0, none⟩) 1 c54 :: .bool true :: .bool false :: .bool false :: iN .i64 0 :: .bool false :: .bool false :: .bool false :: iN .i64 0 :: .bool false :: .bool false :: .bool false :: .slice (some ⟨q52, 0, none⟩) 1 c54 :: iN .i64 1 :: .bool false :: .bool false :: .string ((txt 1)) :: .string ((encB (mkB 1 1 ((txt 7)) ((txt 5)) 3 ((txt 6)) ((txt 9)) 9 ((txt 11))))) :: .string ((txt 13)) :: .slice (some ⟨q61, 0, none⟩) 3 3 :: pt tc.q :: .slice (some ⟨q61, 0, none⟩) 3 3 :: .slice (some ⟨kb77, 0, none⟩) es.length es.length :: .slice (some ⟨q52, 0, none⟩) 1 c54 :: pt q52 :: iN .i64 20 :: .pointer (some ⟨kb77, 20, none⟩) :: .bool false :: List.replicate 42 un).toArray, []⟩ ∧ HA (bs wT) [(kb77, 4, boc (knownF (tW 21) [txt 1, encB (mkB 1 1 ((txt 7)) ((txt 5)) 3 ((txt 6)) ((txt 9)) 9 ((txt 11))), txt 13])), (q61, 9, #[.string ((txt 1)), .string ((encB (mkB 1 1 ((txt 7)) ((txt 5)) 3 ((txt 6)) ((txt 9)) 9 ((txt 11))))), .string ((txt 13))]), (q52, 3, c53)] w') 8 ky ky ky ky ky (h63.drew) ?_ ?_
  · have h64 := h63.drew
    refine zp 0 (.pointer (some ⟨tc.q, 0, none⟩)) ?_
    refine zp 1 (.slice (some ⟨q61, 0, none⟩) 3 3) ?_
    refine zp 3 (.slice (some ⟨q52, 0, none⟩) 1 c54) ?_
    refine wx_pure (i := 4) (.pointer (some ⟨q52, 0, none⟩)) rfl rfl ky ky (fun _ => (run_addr_slice (q := q52) (n := 1) (m := c54) (a := 0) Tryz.underlying84 (fun w => Tryz.sizeOf3 w) ky ky (by decide))) ?_
    refine wx_two 2 5 ky ?_ ?_
    · refine ex_callx rfl ky h64 enter37 #[.pointer (some ⟨tc.q, 0, none⟩), .slice (some ⟨q61, 0, none⟩) 3 3] ky (fun w81 h82 => Known_E (hTc.keep h82.old.old) hok (by omega) (cell_below h82.old.old hvT) [txt 1, encB (mkB 1 1 ((txt 7)) ((txt 5)) 3 ((txt 6)) ((txt 9)) 9 ((txt 11))), txt 13] (m := 3) rfl hc0 (h82.get 0 rfl) sz0_W (by decide) hz) ?_
      rintro w81 h82 _ w83 ⟨kb77, rfl, hl78, hk79, hb80⟩
      have h84 := HA.addNew h82 hb80 hl78 hk79
      have h85 : HA (bs wT) [(kb77, 4, boc (knownF (tW 21) [txt 1, encB (mkB 1 1 ((txt 7)) ((txt 5)) 3 ((txt 6)) ((txt 9)) 9 ((txt 11))), txt 13])), (q61, 9, #[.string ((txt 1)), .string ((encB (mkB 1 1 ((txt 7)) ((txt 5)) 3 ((txt 6)) ((txt 9)) 9 ((txt 11))))), .string ((txt 13))]), (q52, 3, c53)] w83 := h84
      refine ⟨_, rfl, _, .inl ky, h85, ?_⟩
      refine wx_val (i := 5) (iN .i64 20) rfl rfl ky ky (fun w' h' => run_load1 (fun w => Tryz.isAgg3 w) ky (((h'.get 2 rfl).cell 0).trans hc57)) ?_
      refine wx_pure (i := 6) (.pointer (some ⟨kb77, 20, none⟩)) rfl rfl ky ky (fun _ => (run_addr_slice (q := kb77) (n := es.length) (m := es.length) (a := 20) Tryz.underlying87 (fun w => Tryz.sizeOf4 w) ky ky (by omega))) ?_
      refine wx_val (i := 7) (.bool false) rfl rfl ky ky (fun w' h' => run_load1 (fun w => Tryz.isAgg4 w) ky (((h'.get 0 rfl).cell 20).trans (boc_at kn0_W))) ?_
      refine wx_end fun w86 hbx _ => ?_
      have h87 := HA.keep _ _ h85 hbx
      exact ⟨kb77, by kernel_rfl, h87⟩
    · refine ex_doT rfl ky h64 fun w88 h89 => ⟨iN .i64 20, w88, run_load1 (fun w => Tryz.isAgg3 w) ky (((h89.get 1 rfl).cell 0).trans hc57), ?_⟩
      refine ⟨_, .inl ky, h89, ?_⟩
      refine wx_one 2 ky ?_
      refine ex_callx rfl ky h89 enter37 #[.pointer (some ⟨tc.q, 0, none⟩), .slice (some ⟨q61, 0, none⟩) 3 3] ky (fun w98 h99 => Known_E (hTc.keep h99.old.old) hok (by omega) (cell_below h99.old.old hvT) [txt 1, encB (mkB 1 1 ((txt 7)) ((txt 5)) 3 ((txt 6)) ((txt 9)) 9 ((txt 11))), txt 13] (m := 3) rfl hc0 (h99.get 0 rfl) sz0_W (by decide) hz) ?_
      rintro w98 h99 _ w100 ⟨kb94, rfl, hl95, hk96, hb97⟩
      have h101 := HA.addNew h99 hb97 hl95 hk96
      have h102 : HA (bs wT) [(kb94, 4, boc (knownF (tW 21) [txt 1, encB (mkB 1 1 ((txt 7)) ((txt 5)) 3 ((txt 6)) ((txt 9)) 9 ((txt 11))), txt 13])), (q61, 9, #[.string ((txt 1)), .string ((encB (mkB 1 1 ((txt 7)) ((txt 5)) 3 ((txt 6)) ((txt 9)) 9 ((txt 11))))), .string ((txt 13))]), (q52, 3, c53)] w100 := h101
      refine ⟨_, rfl, _, .inl ky, h102, ?_⟩
      refine wx_pure (i := 6) (.pointer (some ⟨kb94, 20, none⟩)) rfl rfl ky ky (fun _ => (run_addr_slice (q := kb94) (n := es.length) (m := es.length) (a := 20) Tryz.underlying87 (fun w => Tryz.sizeOf4 w) ky ky (by omega))) ?_
      refine wx_val (i := 7) (.bool false) rfl rfl ky ky (fun w' h' => run_load1 (fun w => Tryz.isAgg4 w) ky (((h'.get 0 rfl).cell 20).trans (boc_at kn0_W))) ?_
      refine wx_end fun w103 hbx _ => ?_
      have h104 := HA.keep _ _ h102 hbx
      exact ⟨kb94, by kernel_rfl, h104⟩
  · rintro _ w105 ⟨kb77, rfl, h106⟩
    refine then_at rfl ?_
    refine wp_cond_false ky ?_
    refine wp_skip (then_at rfl (wp_seq (wl_region ?_)))
    refine zv (.slice (some ⟨q61, 0, none⟩) 3 3) ?_
    refine zv (.string ((txt 0))) ?_
    refine zv (.pointer (some ⟨q36, 0, none⟩)) ?_
    refine zu (.string ((txt 2))) (run_load1 (fun w => Tryz.isAgg9 w) ky (((hb4.keep h106.old.old).cell 0).trans rfl)) ?_
    refine wl_mks (n := 2) (m := 2) (c := #[.string ((txt 0)), .string ((txt 2))]) h106 9 ky ky ?_
    intro q107 w108 (h109 : HA (bs wT) [(q107, 9, #[.string ((txt 0)), .string ((txt 2))]), (kb77, 4, boc (knownF (tW 21) [txt 1, encB (mkB 1 1 ((txt 7)) ((txt 5)) 3 ((txt 6)) ((txt 9)) 9 ((txt 11))), txt 13])), (q61, 9, #[.string ((txt 1)), .string ((encB (mkB 1 1 ((txt 7)) ((txt 5)) 3 ((txt 6)) ((txt 9)) 9 ((txt 11))))), .string ((txt 13))]), (q52, 3, c53)] w108)
    refine wl_append (m := 2) (c := 2) (Lr := [(q61, 9, #[.string ((txt 1)), .string ((encB (mkB 1 1 ((txt 7)) ((txt 5)) 3 ((txt 6)) ((txt 9)) 9 ((txt 11))))), .string ((txt 13))])]) hR0 (HA.perm h109 (List.Perm.cons _ (List.Perm.swap _ _ _))) (by decide) _ 16 Tryz.underlying86 infos9 rfl (by decide) ky ky ky rfl ky (by unfold maxLen; omega) (by omega) (by decide) ?_
    intro va0 w110 La0 hRa0 h111
    have hRb0 : Row 9 1 va0 5 (([txt 1, encB (mkB 1 1 ((txt 7)) ((txt 5)) 3 ((txt 6)) ((txt 9)) 9 ((txt 11))), txt 13, txt 0, txt 2] : List ByteArray).map Value.string) La0 := hRa0
    obtain ⟨ga0, ca0, cu0, rfl, rfl, hc0x⟩ := hRb0.texts (by decide)
    have h112 : HA (bs wT) [(ga0, 9, cu0), (kb77, 4, boc (knownF (tW 21) [txt 1, encB (mkB 1 1 ((txt 7)) ((txt 5)) 3 ((txt 6)) ((txt 9)) 9 ((txt 11))), txt 13])), (q52, 3, c53)] w110 := h111
    refine zv (.slice (some ⟨ga0, 0, none⟩) 5 ca0) ?_
    refine wl_nil (then_at rfl (wp_seq (wp_seq ?_)))
    refine wp_region_wx (HA (bs wT) [(ga0, 9, cu0), (kb77, 4, boc (knownF (tW 21) [txt 1, encB (mkB 1 1 ((txt 7)) ((txt 5)) 3 ((txt 6)) ((txt 9)) 9 ((txt 11))), txt 13])), (q52, 3, c53)]) (fun AQ w' => ∃ (kb126 : Nat), AQ = ⟨(.bool true :: un :: .bool false :: pt p3.q :: iN .i64 0 :: .string ((txt 0)) :: .string ((txt 1)) :: iN .i64 0 :: pt q36 :: .bool true :: .string ((txt 20)) :: .string ((txt 13)) :: iN .i64 0 :: .string ((encB (mkB 1 1 ((txt 7)) ((txt 5)) 3 ((txt 6)) ((txt 9)) 9 ((txt 11))))) :: iN .i64 0 :: pt tc.q :: .slice (some ⟨q52, 0, none⟩) 1 c54 :: .slice (some ⟨ga0, 0, none⟩) 5 ca0 :: .bool true :: .bool false :: .tuple #[pt p3.q, iN .i64 0] :: .tuple #[pt p3.q, iN .i64 0] :: pt p3.q :: iN .i64 0 :: pt p3.q :: .string ((txt 0)) :: .tuple #[.string ((txt 1)), iN .i64 0] :: pt p3.q :: .string ((txt 0)) :: .tuple #[.string ((txt 1)), iN .i64 0] :: .string ((txt 1)) :: iN .i64 0 :: .tuple #[.agg (dvC ((txt 2)) ((txt 3)) ((txt 10)) ((txt 5)) (mkB 1 1 ((txt 7)) ((txt 5)) 3 ((txt 6)) ((txt 9)) 9 ((txt 11)))), .bool true] :: pt p3.q :: .agg #[.string ({ data := #[] }), .string ({ data := #[] }), .string ({ data := #[] }), .string ({ data := #[] })] :: .bool true :: .tuple #[.agg (dvC ((txt 2)) ((txt 3)) ((txt 10)) ((txt 5)) (mkB 1 1 ((txt 7)) ((txt 5)) 3 ((txt 6)) ((txt 9)) 9 ((txt 11)))), .bool true] :: .agg (dvC ((txt 2)) ((txt 3)) ((txt 10)) ((txt 5)) (mkB 1 1 ((txt 7)) ((txt 5)) 3 ((txt 6)) ((txt 9)) 9 ((txt 11)))) :: .bool true :: .tuple #[.string ((txt 20)), .string ((txt 13)), iN .i64 0] :: pt p3.q :: .string ((txt 0)) :: .pointer (some ⟨q36, 4, none⟩) :: .agg (buC (mkB 1 1 ((txt 7)) ((txt 5)) 3 ((txt 6)) ((txt 9)) 9 ((txt 11)))) :: .tuple #[.string ((txt 20)), .string ((txt 13)), iN .i64 0] :: .string ((txt 20)) :: .string ((txt 13)) :: iN .i64 0 :: .tuple #[.string ((encB (mkB 1 1 ((txt 7)) ((txt 5)) 3 ((txt 6)) ((txt 9)) 9 ((txt 11))))), iN .i64 0] :: .pointer (some ⟨q36, 4, none⟩) :: .agg (buC (mkB 1 1 ((txt 7)) ((txt 5)) 3 ((txt 6)) ((txt 9)) 9 ((txt 11)))) :: .tuple #[.string ((encB (mkB 1 1 ((txt 7)) ((txt 5)) 3 ((txt 6)) ((txt 9)) 9 ((txt 11))))), iN .i64 0] :: .string ((encB (mkB 1 1 ((txt 7)) ((txt 5)) 3 ((txt 6)) ((txt 9)) 9 ((txt 11))))) :: iN .i64 0 :: pt p3.q :: pt tc.q :: pt tc.q :: .string ((txt 20)) :: .slice (some ⟨q52, 0, none⟩) 1 c54 :: .bool true :: .bool false :: .bool false :: iN .i64 0 :: .bool false :: .bool false :: .bool false :: iN .i64 0 :: .bool false :: .bool false :: .bool false :: .slice (some ⟨q52, 0, none⟩) 1 c54 :: iN .i64 1 :: .bool false :: .bool false :: .string ((txt 1)) :: .string ((encB (mkB 1 1 ((txt 7)) ((txt 5)) 3 ((txt 6)) ((txt 9)) 9 ((txt 11))))) :: .string ((txt 13)) :: .slice (some ⟨q61, 0, none⟩) 3 3 :: pt tc.q :: .slice (some ⟨q61, 0, none⟩) 3 3 :: .slice (some ⟨kb77, 0, none⟩) es.length es.length :: .slice (some ⟨q52, 0, none⟩) 1 c54 :: pt q52 :: iN .i64 20 :: .pointer (some ⟨kb77, 20, none⟩) :: .bool false :: .slice (some ⟨q61, 0, none⟩) 3 3 :: .string ((txt 0)) :: pt q36 :: .string ((txt 2)) :: .slice (some ⟨q107, 0, none⟩) 2 2 :: .slice (some ⟨ga0, 0, none⟩) 5 ca0 :: pt tc.q :: .slice (some ⟨ga0, 0, none⟩) 5 ca0 :: .slice (some ⟨kb126, 0, none⟩) es.length es.length :: .slice (some ⟨q52, 0, none⟩) 1 c54 :: pt q52 :: iN .i64 20 :: .pointer (some ⟨kb126, 20, none⟩) :: .bool false :: List.replicate 28 un).toArray, []⟩ ∧ HA (bs wT) [(kb126, 4, boc (knownF (tW 21) [txt 1, encB (mkB 1 1 ((txt 7)) ((txt 5)) 3 ((txt 6)) ((txt 9)) 9 ((txt 11))), txt 13, txt 0, txt 2])), (ga0, 9, cu0), (kb77, 4, boc (knownF (tW 21) [txt 1, encB (mkB 1 1 ((txt 7)) ((txt 5)) 3 ((txt 6)) ((txt 9)) 9 ((txt 11))), txt 13])), (q52, 3, c53)] w') 8 ky ky ky ky ky (h112.drew) ?_ ?_
    · have h113 := h112.drew
      refine zp 0 (.pointer (some ⟨tc.q, 0, none⟩)) ?_
      refine zp 1 (.slice (some ⟨ga0, 0, none⟩) 5 ca0) ?_
      refine zp 3 (.slice (some ⟨q52, 0, none⟩) 1 c54) ?_
      refine wx_pure (i := 4) (.pointer (some ⟨q52, 0, none⟩)) rfl rfl ky ky (fun _ => (run_addr_slice (q := q52) (n := 1) (m := c54) (a := 0) Tryz.underlying84 (fun w => Tryz.sizeOf3 w) ky ky (by decide))) ?_
      refine wx_two 2 5 ky ?_ ?_
      · refine ex_callx rfl ky h113 enter37 #[.pointer (some ⟨tc.q, 0, none⟩), .slice (some ⟨ga0, 0, none⟩) 5 ca0] ky (fun w130 h131 => Known_E (hTc.keep h131.old.old) hok (by omega) (cell_below h131.old.old hvT) [txt 1, encB (mkB 1 1 ((txt 7)) ((txt 5)) 3 ((txt 6)) ((txt 9)) 9 ((txt 11))), txt 13, txt 0, txt 2] (m := 5) rfl hc0x (h131.get 0 rfl) sz1_W (by decide) hz) ?_
        rintro w130 h131 _ w132 ⟨kb126, rfl, hl127, hk128, hb129⟩
        have h133 := HA.addNew h131 hb129 hl127 hk128
        have h134 : HA (bs wT) [(kb126, 4, boc (knownF (tW 21) [txt 1, encB (mkB 1 1 ((txt 7)) ((txt 5)) 3 ((txt 6)) ((txt 9)) 9 ((txt 11))), txt 13, txt 0, txt 2])), (ga0, 9, cu0), (kb77, 4, boc (knownF (tW 21) [txt 1, encB (mkB 1 1 ((txt 7)) ((txt 5)) 3 ((txt 6)) ((txt 9)) 9 ((txt 11))), txt 13])), (q52, 3, c53)] w132 := h133
        refine ⟨_, rfl, _, .inl ky, h134, ?_⟩
        refine wx_val (i := 5) (iN .i64 20) rfl rfl ky ky (fun w' h' => run_load1 (fun w => Tryz.isAgg3 w) ky (((h'.get 3 rfl).cell 0).trans hc57)) ?_
        refine wx_pure (i := 6) (.pointer (some ⟨kb126, 20, none⟩)) rfl rfl ky ky (fun _ => (run_addr_slice (q := kb126) (n := es.length) (m := es.length) (a := 20) Tryz.underlying87 (fun w => Tryz.sizeOf4 w) ky ky (by omega))) ?_
        refine wx_val (i := 7) (.bool false) rfl rfl ky ky (fun w' h' => run_load1 (fun w => Tryz.isAgg4 w) ky (((h'.get 0 rfl).cell 20).trans (boc_at kn1_W))) ?_
        refine wx_end fun w135 hbx _ => ?_
        have h136 := HA.keep _ _ h134 hbx
        exact ⟨kb126, by kernel_rfl, h136⟩
      · refine ex_doT rfl ky h113 fun w137 h138 => ⟨iN .i64 20, w137, run_load1 (fun w => Tryz.isAgg3 w) ky (((h138.get 2 rfl).cell 0).trans hc57), ?_⟩
        refine ⟨_, .inl ky, h138, ?_⟩
        refine wx_one 2 ky ?_
        refine ex_callx rfl ky h138 enter37 #[.pointer (some ⟨tc.q, 0, none⟩), .slice (some ⟨ga0, 0, none⟩) 5 ca0] ky (fun w147 h148 => Known_E (hTc.keep h148.old.old) hok (by omega) (cell_below h148.old.old hvT) [txt 1, encB (mkB 1 1 ((txt 7)) ((txt 5)) 3 ((txt 6)) ((txt 9)) 9 ((txt 11))), txt 13, txt 0, txt 2] (m := 5) rfl hc0x (h148.get 0 rfl) sz1_W (by decide) hz) ?_
        rintro w147 h148 _ w149 ⟨kb143, rfl, hl144, hk145, hb146⟩
        have h150 := HA.addNew h148 hb146 hl144 hk145
        have h151 : HA (bs wT) [(kb143, 4, boc (knownF (tW 21) [txt 1, encB (mkB 1 1 ((txt 7)) ((txt 5)) 3 ((txt 6)) ((txt 9)) 9 ((txt 11))), txt 13, txt 0, txt 2])), (ga0, 9, cu0), (kb77, 4, boc (knownF (tW 21) [txt 1, encB (mkB 1 1 ((txt 7)) ((txt 5)) 3 ((txt 6)) ((txt 9)) 9 ((txt 11))), txt 13])), (q52, 3, c53)] w149 := h150
        refine ⟨_, rfl, _, .inl ky, h151, ?_⟩
        refine wx_pure (i := 6) (.pointer (some ⟨kb143, 20, none⟩)) rfl rfl ky ky (fun _ => (run_addr_slice (q := kb143) (n := es.length) (m := es.length) (a := 20) Tryz.underlying87 (fun w => Tryz.sizeOf4 w) ky ky (by omega))) ?_
        refine wx_val (i := 7) (.bool false) rfl rfl ky ky (fun w' h' => run_load1 (fun w => Tryz.isAgg4 w) ky (((h'.get 0 rfl).cell 20).trans (boc_at kn1_W))) ?_
        refine wx_end fun w152 hbx _ => ?_
        have h153 := HA.keep _ _ h151 hbx
        exact ⟨kb143, by kernel_rfl, h153⟩
    · rintro _ w154 ⟨kb126, rfl, h155⟩
      refine then_at rfl ?_
      refine wp_cond_false ky ?_
      refine wp_skip (then_at rfl (wp_seq (wl_region ?_)))
      refine zv (.slice (some ⟨ga0, 0, none⟩) 5 ca0) ?_
      refine zv (.pointer (some ⟨q36, 1, none⟩)) ?_
      refine zu (.string ((txt 3))) (run_load1 (fun w => Tryz.isAgg9 w) ky (((hb4.keep h155.old.old).cell 1).trans rfl)) ?_
      refine wl_mks (n := 1) (m := 1) (c := #[.string ((txt 3))]) h155 9 ky ky ?_
      intro q156 w157 (h158 : HA (bs wT) [(q156, 9, #[.string ((txt 3))]), (kb126, 4, boc (knownF (tW 21) [txt 1, encB (mkB 1 1 ((txt 7)) ((txt 5)) 3 ((txt 6)) ((txt 9)) 9 ((txt 11))), txt 13, txt 0, txt 2])), (ga0, 9, cu0), (kb77, 4, boc (knownF (tW 21) [txt 1, encB (mkB 1 1 ((txt 7)) ((txt 5)) 3 ((txt 6)) ((txt 9)) 9 ((txt 11))), txt 13])), (q52, 3, c53)] w157)
      refine wl_append (m := 1) (c := 1) (Lr := [(ga0, 9, cu0)]) hRb0 (HA.perm h158 (List.Perm.cons _ (List.Perm.swap _ _ _))) (by decide) _ 16 Tryz.underlying86 infos9 rfl (by decide) ky ky ky rfl ky (by unfold maxLen; omega) (by omega) (by decide) ?_
      intro va1 w159 La1 hRa1 h160
      have hRb1 : Row 9 1 va1 6 (([txt 1, encB (mkB 1 1 ((txt 7)) ((txt 5)) 3 ((txt 6)) ((txt 9)) 9 ((txt 11))), txt 13, txt 0, txt 2, txt 3] : List ByteArray).map Value.string) La1 := hRa1
      obtain ⟨ga1, ca1, cu1, rfl, rfl, hc1x⟩ := hRb1.texts (by decide)
      have h161 : HA (bs wT) [(ga1, 9, cu1), (kb126, 4, boc (knownF (tW 21) [txt 1, encB (mkB 1 1 ((txt 7)) ((txt 5)) 3 ((txt 6)) ((txt 9)) 9 ((txt 11))), txt 13, txt 0, txt 2])), (kb77, 4, boc (knownF (tW 21) [txt 1, encB (mkB 1 1 ((txt 7)) ((txt 5)) 3 ((txt 6)) ((txt 9)) 9 ((txt 11))), txt 13])), (q52, 3, c53)] w159 := h160
      refine zv (.slice (some ⟨ga1, 0, none⟩) 6 ca1) ?_
      refine wl_nil (then_at rfl (wp_seq (wp_seq ?_)))
      refine wp_region_wx (HA (bs wT) [(ga1, 9, cu1), (kb126, 4, boc (knownF (tW 21) [txt 1, encB (mkB 1 1 ((txt 7)) ((txt 5)) 3 ((txt 6)) ((txt 9)) 9 ((txt 11))), txt 13, txt 0, txt 2])), (kb77, 4, boc (knownF (tW 21) [txt 1, encB (mkB 1 1 ((txt 7)) ((txt 5)) 3 ((txt 6)) ((txt 9)) 9 ((txt 11))), txt 13])), (q52, 3, c53)]) (fun AQ w' => ∃ (kb179 : Nat), AQ = ⟨(.bool true :: un :: .bool false :: pt p3.q :: iN .i64 0 :: .string ((txt 0)) :: .string ((txt 1)) :: iN .i64 0 :: pt q36 :: .bool true :: .string ((txt 20)) :: .string ((txt 13)) :: iN .i64 0 :: .string ((encB (mkB 1 1 ((txt 7)) ((txt 5)) 3 ((txt 6)) ((txt 9)) 9 ((txt 11))))) :: iN .i64 0 :: pt tc.q :: .slice (some ⟨q52, 0, none⟩) 1 c54 :: .slice (some ⟨ga1, 0, none⟩) 6 ca1 :: .bool true :: .bool false :: .tuple #[pt p3.q, iN .i64 0] :: .tuple #[pt p3.q, iN .i64 0] :: pt p3.q :: iN .i64 0 :: pt p3.q :: .string ((txt 0)) :: .tuple #[.string ((txt 1)), iN .i64 0] :: pt p3.q :: .string ((txt 0)) :: .tuple #[.string ((txt 1)), iN .i64 0] :: .string ((txt 1)) :: iN .i64 0 :: .tuple #[.agg (dvC ((txt 2)) ((txt 3)) ((txt 10)) ((txt 5)) (mkB 1 1 ((txt 7)) ((txt 5)) 3 ((txt 6)) ((txt 9)) 9 ((txt 11)))), .bool true] :: pt p3.q :: .agg #[.string ({ data := #[] }), .string ({ data := #[] }), .string ({ data := #[] }), .string ({ data := #[] })] :: .bool true :: .tuple #[.agg (dvC ((txt 2)) ((txt 3)) ((txt 10)) ((txt 5)) (mkB 1 1 ((txt 7)) ((txt 5)) 3 ((txt 6)) ((txt 9)) 9 ((txt 11)))), .bool true] :: .agg (dvC ((txt 2)) ((txt 3)) ((txt 10)) ((txt 5)) (mkB 1 1 ((txt 7)) ((txt 5)) 3 ((txt 6)) ((txt 9)) 9 ((txt 11)))) :: .bool true :: .tuple #[.string ((txt 20)), .string ((txt 13)), iN .i64 0] :: pt p3.q :: .string ((txt 0)) :: .pointer (some ⟨q36, 4, none⟩) :: .agg (buC (mkB 1 1 ((txt 7)) ((txt 5)) 3 ((txt 6)) ((txt 9)) 9 ((txt 11)))) :: .tuple #[.string ((txt 20)), .string ((txt 13)), iN .i64 0] :: .string ((txt 20)) :: .string ((txt 13)) :: iN .i64 0 :: .tuple #[.string ((encB (mkB 1 1 ((txt 7)) ((txt 5)) 3 ((txt 6)) ((txt 9)) 9 ((txt 11))))), iN .i64 0] :: .pointer (some ⟨q36, 4, none⟩) :: .agg (buC (mkB 1 1 ((txt 7)) ((txt 5)) 3 ((txt 6)) ((txt 9)) 9 ((txt 11)))) :: .tuple #[.string ((encB (mkB 1 1 ((txt 7)) ((txt 5)) 3 ((txt 6)) ((txt 9)) 9 ((txt 11))))), iN .i64 0] :: .string ((encB (mkB 1 1 ((txt 7)) ((txt 5)) 3 ((txt 6)) ((txt 9)) 9 ((txt 11))))) :: iN .i64 0 :: pt p3.q :: pt tc.q :: pt tc.q :: .string ((txt 20)) :: .slice (some ⟨q52, 0, none⟩) 1 c54 :: .bool true :: .bool false :: .bool false :: iN .i64 0 :: .bool false :: .bool false :: .bool false :: iN .i64 0 :: .bool false :: .bool false :: .bool false :: .slice (some ⟨q52, 0, none⟩) 1 c54 :: iN .i64 1 :: .bool false :: .bool false :: .string ((txt 1)) :: .string ((encB (mkB 1 1 ((txt 7)) ((txt 5)) 3 ((txt 6)) ((txt 9)) 9 ((txt 11))))) :: .string ((txt 13)) :: .slice (some ⟨q61, 0, none⟩) 3 3 :: pt tc.q :: .slice (some ⟨q61, 0, none⟩) 3 3 :: .slice (some ⟨kb77, 0, none⟩) es.length es.length :: .slice (some ⟨q52, 0, none⟩) 1 c54 :: pt q52 :: iN .i64 20 :: .pointer (some ⟨kb77, 20, none⟩) :: .bool false :: .slice (some ⟨q61, 0, none⟩) 3 3 :: .string ((txt 0)) :: pt q36 :: .string ((txt 2)) :: .slice (some ⟨q107, 0, none⟩) 2 2 :: .slice (some ⟨ga0, 0, none⟩) 5 ca0 :: pt tc.q :: .slice (some ⟨ga0, 0, none⟩) 5 ca0 :: .slice (some ⟨kb126, 0, none⟩) es.length es.length :: .slice (some ⟨q52, 0, none⟩) 1 c54 :: pt q52 :: iN .i64 20 :: .pointer (some ⟨kb126, 20, none⟩) :: .bool false :: .slice (some ⟨ga0, 0, none⟩) 5 ca0 :: .pointer (some ⟨q36, 1, none⟩) :: .string ((txt 3)) :: .slice (some ⟨q156, 0, none⟩) 1 1 :: .slice (some ⟨ga1, 0, none⟩) 6 ca1 :: pt tc.q :: .slice (some ⟨ga1, 0, none⟩) 6 ca1 :: .slice (some ⟨kb179, 0, none⟩) es.length es.length :: .slice (some ⟨q52, 0, none⟩) 1 c54 :: pt q52 :: iN .i64 20 :: .pointer (some ⟨kb179, 20, none⟩) :: .bool false :: .bool true :: .bool false :: List.replicate 13 un).toArray, []⟩ ∧ HA (bs wT) [(kb179, 4, boc (knownF (tW 21) [txt 1, encB (mkB 1 1 ((txt 7)) ((txt 5)) 3 ((txt 6)) ((txt 9)) 9 ((txt 11))), txt 13, txt 0, txt 2, txt 3])), (ga1, 9, cu1), (kb126, 4, boc (knownF (tW 21) [txt 1, encB (mkB 1 1 ((txt 7)) ((txt 5)) 3 ((txt 6)) ((txt 9)) 9 ((txt 11))), txt 13, txt 0, txt 2])), (kb77, 4, boc (knownF (tW 21) [txt 1, encB (mkB 1 1 ((txt 7)) ((txt 5)) 3 ((txt 6)) ((txt 9)) 9 ((txt 11))), txt 13])), (q52, 3, c53)] w') 10 ky ky ky ky ky (h161.drew) ?_ ?_
      · have h162 := h161.drew
        refine zp 0 (.pointer (some ⟨tc.q, 0, none⟩)) ?_
        refine zp 1 (.slice (some ⟨ga1, 0, none⟩) 6 ca1) ?_
        refine zp 3 (.slice (some ⟨q52, 0, none⟩) 1 c54) ?_
        refine wx_pure (i := 4) (.pointer (some ⟨q52, 0, none⟩)) rfl rfl ky ky (fun _ => (run_addr_slice (q := q52) (n := 1) (m := c54) (a := 0) Tryz.underlying84 (fun w => Tryz.sizeOf3 w) ky ky (by decide))) ?_
        refine zp 8 (.bool true) ?_
        refine wx_two 2 5 ky ?_ ?_
        · refine ex_callx rfl ky h162 enter37 #[.pointer (some ⟨tc.q, 0, none⟩), .slice (some ⟨ga1, 0, none⟩) 6 ca1] ky (fun w183 h184 => Known_E (hTc.keep h184.old.old) hok (by omega) (cell_below h184.old.old hvT) [txt 1, encB (mkB 1 1 ((txt 7)) ((txt 5)) 3 ((txt 6)) ((txt 9)) 9 ((txt 11))), txt 13, txt 0, txt 2, txt 3] (m := 6) rfl hc1x (h184.get 0 rfl) sz2_W (by decide) hz) ?_
          rintro w183 h184 _ w185 ⟨kb179, rfl, hl180, hk181, hb182⟩
          have h186 := HA.addNew h184 hb182 hl180 hk181
          have h187 : HA (bs wT) [(kb179, 4, boc (knownF (tW 21) [txt 1, encB (mkB 1 1 ((txt 7)) ((txt 5)) 3 ((txt 6)) ((txt 9)) 9 ((txt 11))), txt 13, txt 0, txt 2, txt 3])), (ga1, 9, cu1), (kb126, 4, boc (knownF (tW 21) [txt 1, encB (mkB 1 1 ((txt 7)) ((txt 5)) 3 ((txt 6)) ((txt 9)) 9 ((txt 11))), txt 13, txt 0, txt 2])), (kb77, 4, boc (knownF (tW 21) [txt 1, encB (mkB 1 1 ((txt 7)) ((txt 5)) 3 ((txt 6)) ((txt 9)) 9 ((txt 11))), txt 13])), (q52, 3, c53)] w185 := h186
          refine ⟨_, rfl, _, .inl ky, h187, ?_⟩
          refine wx_val (i := 5) (iN .i64 20) rfl rfl ky ky (fun w' h' => run_load1 (fun w => Tryz.isAgg3 w) ky (((h'.get 4 rfl).cell 0).trans hc57)) ?_
          refine wx_pure (i := 6) (.pointer (some ⟨kb179, 20, none⟩)) rfl rfl ky ky (fun _ => (run_addr_slice (q := kb179) (n := es.length) (m := es.length) (a := 20) Tryz.underlying87 (fun w => Tryz.sizeOf4 w) ky ky (by omega))) ?_
          refine wx_val (i := 7) (.bool false) rfl rfl ky ky (fun w' h' => run_load1 (fun w => Tryz.isAgg4 w) ky (((h'.get 0 rfl).cell 20).trans (boc_at kn2_W))) ?_
          refine zp 9 (.bool false) ?_
          refine wx_end fun w188 hbx _ => ?_
          have h189 := HA.keep _ _ h187 hbx
          exact ⟨kb179, by kernel_rfl, h189⟩
        · refine ex_doT rfl ky h162 fun w190 h191 => ⟨iN .i64 20, w190, run_load1 (fun w => Tryz.isAgg3 w) ky (((h191.get 3 rfl).cell 0).trans hc57), ?_⟩
          refine ⟨_, .inl ky, h191, ?_⟩
          refine wx_one 2 ky ?_
          refine ex_callx rfl ky h191 enter37 #[.pointer (some ⟨tc.q, 0, none⟩), .slice (some ⟨ga1, 0, none⟩) 6 ca1] ky (fun w200 h201 => Known_E (hTc.keep h201.old.old) hok (by omega) (cell_below h201.old.old hvT) [txt 1, encB (mkB 1 1 ((txt 7)) ((txt 5)) 3 ((txt 6)) ((txt 9)) 9 ((txt 11))), txt 13, txt 0, txt 2, txt 3] (m := 6) rfl hc1x (h201.get 0 rfl) sz2_W (by decide) hz) ?_
          rintro w200 h201 _ w202 ⟨kb196, rfl, hl197, hk198, hb199⟩
          have h203 := HA.addNew h201 hb199 hl197 hk198
          have h204 : HA (bs wT) [(kb196, 4, boc (knownF (tW 21) [txt 1, encB (mkB 1 1 ((txt 7)) ((txt 5)) 3 ((txt 6)) ((txt 9)) 9 ((txt 11))), txt 13, txt 0, txt 2, txt 3])), (ga1, 9, cu1), (kb126, 4, boc (knownF (tW 21) [txt 1, encB (mkB 1 1 ((txt 7)) ((txt 5)) 3 ((txt 6)) ((txt 9)) 9 ((txt 11))), txt 13, txt 0, txt 2])), (kb77, 4, boc (knownF (tW 21) [txt 1, encB (mkB 1 1 ((txt 7)) ((txt 5)) 3 ((txt 6)) ((txt 9)) 9 ((txt 11))), txt 13])), (q52, 3, c53)] w202 := h203
          refine ⟨_, rfl, _, .inl ky, h204, ?_⟩
          refine wx_pure (i := 6) (.pointer (some ⟨kb196, 20, none⟩)) rfl rfl ky ky (fun _ => (run_addr_slice (q := kb196) (n := es.length) (m := es.length) (a := 20) Tryz.underlying87 (fun w => Tryz.sizeOf4 w) ky ky (by omega))) ?_
          refine wx_val (i := 7) (.bool false) rfl rfl ky ky (fun w' h' => run_load1 (fun w => Tryz.isAgg4 w) ky (((h'.get 0 rfl).cell 20).trans (boc_at kn2_W))) ?_
          refine zp 9 (.bool false) ?_
          refine wx_end fun w205 hbx _ => ?_
          have h206 := HA.keep _ _ h204 hbx
          exact ⟨kb196, by kernel_rfl, h206⟩
      · rintro _ w207 ⟨kb179, rfl, h208⟩
        refine then_at rfl ?_
        refine wp_cond_false ky ?_
        refine wp_skip (then_at rfl (wp_seq (wl_region ?_)))
        refine zv (.slice (some ⟨ga1, 0, none⟩) 6 ca1) ?_
        refine zv (.pointer (some ⟨q36, 2, none⟩)) ?_
        refine zu (.string ((txt 10))) (run_load1 (fun w => Tryz.isAgg9 w) ky (((hb4.keep h208.old.old).cell 2).trans rfl)) ?_
        refine wl_mks (n := 1) (m := 1) (c := #[.string ((txt 10))]) h208 9 ky ky ?_
        intro q209 w210 (h211 : HA (bs wT) [(q209, 9, #[.string ((txt 10))]), (kb179, 4, boc (knownF (tW 21) [txt 1, encB (mkB 1 1 ((txt 7)) ((txt 5)) 3 ((txt 6)) ((txt 9)) 9 ((txt 11))), txt 13, txt 0, txt 2, txt 3])), (ga1, 9, cu1), (kb126, 4, boc (knownF (tW 21) [txt 1, encB (mkB 1 1 ((txt 7)) ((txt 5)) 3 ((txt 6)) ((txt 9)) 9 ((txt 11))), txt 13, txt 0, txt 2])), (kb77, 4, boc (knownF (tW 21) [txt 1, encB (mkB 1 1 ((txt 7)) ((txt 5)) 3 ((txt 6)) ((txt 9)) 9 ((txt 11))), txt 13])), (q52, 3, c53)] w210)
        refine wl_append (m := 1) (c := 1) (Lr := [(ga1, 9, cu1)]) hRb1 (HA.perm h211 (List.Perm.cons _ (List.Perm.swap _ _ _))) (by decide) _ 16 Tryz.underlying86 infos9 rfl (by decide) ky ky ky rfl ky (by unfold maxLen; omega) (by omega) (by decide) ?_
        intro va2 w212 La2 hRa2 h213
        have hRb2 : Row 9 1 va2 7 (([txt 1, encB (mkB 1 1 ((txt 7)) ((txt 5)) 3 ((txt 6)) ((txt 9)) 9 ((txt 11))), txt 13, txt 0, txt 2, txt 3, txt 10] : List ByteArray).map Value.string) La2 := hRa2
        obtain ⟨ga2, ca2, cu2, rfl, rfl, hc2x⟩ := hRb2.texts (by decide)
        have h214 : HA (bs wT) [(ga2, 9, cu2), (kb179, 4, boc (knownF (tW 21) [txt 1, encB (mkB 1 1 ((txt 7)) ((txt 5)) 3 ((txt 6)) ((txt 9)) 9 ((txt 11))), txt 13, txt 0, txt 2, txt 3])), (kb126, 4, boc (knownF (tW 21) [txt 1, encB (mkB 1 1 ((txt 7)) ((txt 5)) 3 ((txt 6)) ((txt 9)) 9 ((txt 11))), txt 13, txt 0, txt 2])), (kb77, 4, boc (knownF (tW 21) [txt 1, encB (mkB 1 1 ((txt 7)) ((txt 5)) 3 ((txt 6)) ((txt 9)) 9 ((txt 11))), txt 13])), (q52, 3, c53)] w212 := h213
        refine zv (.slice (some ⟨ga2, 0, none⟩) 7 ca2) ?_
        refine wl_nil (then_at rfl (wp_seq ?_))
        refine wp_region_wx (HA (bs wT) [(ga2, 9, cu2), (kb179, 4, boc (knownF (tW 21) [txt 1, encB (mkB 1 1 ((txt 7)) ((txt 5)) 3 ((txt 6)) ((txt 9)) 9 ((txt 11))), txt 13, txt 0, txt 2, txt 3])), (kb126, 4, boc (knownF (tW 21) [txt 1, encB (mkB 1 1 ((txt 7)) ((txt 5)) 3 ((txt 6)) ((txt 9)) 9 ((txt 11))), txt 13, txt 0, txt 2])), (kb77, 4, boc (knownF (tW 21) [txt 1, encB (mkB 1 1 ((txt 7)) ((txt 5)) 3 ((txt 6)) ((txt 9)) 9 ((txt 11))), txt 13])), (q52, 3, c53)]) (fun AQ w' => ∃ (kb228 : Nat), AQ = ⟨(.bool true :: un :: .bool true :: pt p3.q :: iN .i64 0 :: .string ((txt 0)) :: .string ((txt 1)) :: iN .i64 0 :: pt q36 :: .bool true :: .string ((txt 20)) :: .string ((txt 13)) :: iN .i64 0 :: .string ((encB (mkB 1 1 ((txt 7)) ((txt 5)) 3 ((txt 6)) ((txt 9)) 9 ((txt 11))))) :: iN .i64 0 :: pt tc.q :: .slice (some ⟨q52, 0, none⟩) 1 c54 :: .slice (some ⟨ga2, 0, none⟩) 7 ca2 :: .bool true :: .bool false :: .tuple #[pt p3.q, iN .i64 0] :: .tuple #[pt p3.q, iN .i64 0] :: pt p3.q :: iN .i64 0 :: pt p3.q :: .string ((txt 0)) :: .tuple #[.string ((txt 1)), iN .i64 0] :: pt p3.q :: .string ((txt 0)) :: .tuple #[.string ((txt 1)), iN .i64 0] :: .string ((txt 1)) :: iN .i64 0 :: .tuple #[.agg (dvC ((txt 2)) ((txt 3)) ((txt 10)) ((txt 5)) (mkB 1 1 ((txt 7)) ((txt 5)) 3 ((txt 6)) ((txt 9)) 9 ((txt 11)))), .bool true] :: pt p3.q :: .agg #[.string ({ data := #[] }), .string ({ data := #[] }), .string ({ data := #[] }), .string ({ data := #[] })] :: .bool true :: .tuple #[.agg (dvC ((txt 2)) ((txt 3)) ((txt 10)) ((txt 5)) (mkB 1 1 ((txt 7)) ((txt 5)) 3 ((txt 6)) ((txt 9)) 9 ((txt 11)))), .bool true] :: .agg (dvC ((txt 2)) ((txt 3)) ((txt 10)) ((txt 5)) (mkB 1 1 ((txt 7)) ((txt 5)) 3 ((txt 6)) ((txt 9)) 9 ((txt 11)))) :: .bool true :: .tuple #[.string ((txt 20)), .string ((txt 13)), iN .i64 0] :: pt p3.q :: .string ((txt 0)) :: .pointer (some ⟨q36, 4, none⟩) :: .agg (buC (mkB 1 1 ((txt 7)) ((txt 5)) 3 ((txt 6)) ((txt 9)) 9 ((txt 11)))) :: .tuple #[.string ((txt 20)), .string ((txt 13)), iN .i64 0] :: .string ((txt 20)) :: .string ((txt 13)) :: iN .i64 0 :: .tuple #[.string ((encB (mkB 1 1 ((txt 7)) ((txt 5)) 3 ((txt 6)) ((txt 9)) 9 ((txt 11))))), iN .i64 0] :: .pointer (some ⟨q36, 4, none⟩) :: .agg (buC (mkB 1 1 ((txt 7)) ((txt 5)) 3 ((txt 6)) ((txt 9)) 9 ((txt 11)))) :: .tuple #[.string ((encB (mkB 1 1 ((txt 7)) ((txt 5)) 3 ((txt 6)) ((txt 9)) 9 ((txt 11))))), iN .i64 0] :: .string ((encB (mkB 1 1 ((txt 7)) ((txt 5)) 3 ((txt 6)) ((txt 9)) 9 ((txt 11))))) :: iN .i64 0 :: pt p3.q :: pt tc.q :: pt tc.q :: .string ((txt 20)) :: .slice (some ⟨q52, 0, none⟩) 1 c54 :: .bool true :: .bool false :: .bool false :: iN .i64 0 :: .bool false :: .bool false :: .bool false :: iN .i64 0 :: .bool false :: .bool false :: .bool false :: .slice (some ⟨q52, 0, none⟩) 1 c54 :: iN .i64 1 :: .bool false :: .bool false :: .string ((txt 1)) :: .string ((encB (mkB 1 1 ((txt 7)) ((txt 5)) 3 ((txt 6)) ((txt 9)) 9 ((txt 11))))) :: .string ((txt 13)) :: .slice (some ⟨q61, 0, none⟩) 3 3 :: pt tc.q :: .slice (some ⟨q61, 0, none⟩) 3 3 :: .slice (some ⟨kb77, 0, none⟩) es.length es.length :: .slice (some ⟨q52, 0, none⟩) 1 c54 :: pt q52 :: iN .i64 20 :: .pointer (some ⟨kb77, 20, none⟩) :: .bool false :: .slice (some ⟨q61, 0, none⟩) 3 3 :: .string ((txt 0)) :: pt q36 :: .string ((txt 2)) :: .slice (some ⟨q107, 0, none⟩) 2 2 :: .slice (some ⟨ga0, 0, none⟩) 5 ca0 :: pt tc.q :: .slice (some ⟨ga0, 0, none⟩) 5 ca0 :: .slice (some ⟨kb126, 0, none⟩) es.length es.length :: .slice (some ⟨q52, 0, none⟩) 1 c54 :: pt q52 :: iN .i64 20 :: .pointer (some ⟨kb126, 20, none⟩) :: .bool false :: .slice (some ⟨ga0, 0, none⟩) 5 ca0 :: .pointer (some ⟨q36, 1, none⟩) :: .string ((txt 3)) :: .slice (some ⟨q156, 0, none⟩) 1 1 :: .slice (some ⟨ga1, 0, none⟩) 6 ca1 :: pt tc.q :: .slice (some ⟨ga1, 0, none⟩) 6 ca1 :: .slice (some ⟨kb179, 0, none⟩) es.length es.length :: .slice (some ⟨q52, 0, none⟩) 1 c54 :: pt q52 :: iN .i64 20 :: .pointer (some ⟨kb179, 20, none⟩) :: .bool false :: .bool true :: .bool false :: .slice (some ⟨ga1, 0, none⟩) 6 ca1 :: .pointer (some ⟨q36, 2, none⟩) :: .string ((txt 10)) :: .slice (some ⟨q209, 0, none⟩) 1 1 :: .slice (some ⟨ga2, 0, none⟩) 7 ca2 :: pt tc.q :: .slice (some ⟨ga2, 0, none⟩) 7 ca2 :: .slice (some ⟨kb228, 0, none⟩) es.length es.length :: .slice (some ⟨q52, 0, none⟩) 1 c54 :: pt q52 :: iN .i64 20 :: .pointer (some ⟨kb228, 20, none⟩) :: .bool true :: List.replicate 0 un).toArray, []⟩ ∧ HA (bs wT) [(kb228, 4, boc (knownF (tW 21) [txt 1, encB (mkB 1 1 ((txt 7)) ((txt 5)) 3 ((txt 6)) ((txt 9)) 9 ((txt 11))), txt 13, txt 0, txt 2, txt 3, txt 10])), (ga2, 9, cu2), (kb179, 4, boc (knownF (tW 21) [txt 1, encB (mkB 1 1 ((txt 7)) ((txt 5)) 3 ((txt 6)) ((txt 9)) 9 ((txt 11))), txt 13, txt 0, txt 2, txt 3])), (kb126, 4, boc (knownF (tW 21) [txt 1, encB (mkB 1 1 ((txt 7)) ((txt 5)) 3 ((txt 6)) ((txt 9)) 9 ((txt 11))), txt 13, txt 0, txt 2])), (kb77, 4, boc (knownF (tW 21) [txt 1, encB (mkB 1 1 ((txt 7)) ((txt 5)) 3 ((txt 6)) ((txt 9)) 9 ((txt 11))), txt 13])), (q52, 3, c53)] w') 9 ky ky ky ky ky (h214.drew) ?_ ?_
        · have h215 := h214.drew
          refine zp 0 (.pointer (some ⟨tc.q, 0, none⟩)) ?_
          refine zp 1 (.slice (some ⟨ga2, 0, none⟩) 7 ca2) ?_
          refine zp 3 (.slice (some ⟨q52, 0, none⟩) 1 c54) ?_
          refine wx_pure (i := 4) (.pointer (some ⟨q52, 0, none⟩)) rfl rfl ky ky (fun _ => (run_addr_slice (q := q52) (n := 1) (m := c54) (a := 0) Tryz.underlying84 (fun w => Tryz.sizeOf3 w) ky ky (by decide))) ?_
          refine wx_two 2 5 ky ?_ ?_
          · refine ex_callx rfl ky h215 enter37 #[.pointer (some ⟨tc.q, 0, none⟩), .slice (some ⟨ga2, 0, none⟩) 7 ca2] ky (fun w232 h233 => Known_E (hTc.keep h233.old.old) hok (by omega) (cell_below h233.old.old hvT) [txt 1, encB (mkB 1 1 ((txt 7)) ((txt 5)) 3 ((txt 6)) ((txt 9)) 9 ((txt 11))), txt 13, txt 0, txt 2, txt 3, txt 10] (m := 7) rfl hc2x (h233.get 0 rfl) sz3_W (by decide) hz) ?_
            rintro w232 h233 _ w234 ⟨kb228, rfl, hl229, hk230, hb231⟩
            have h235 := HA.addNew h233 hb231 hl229 hk230
            have h236 : HA (bs wT) [(kb228, 4, boc (knownF (tW 21) [txt 1, encB (mkB 1 1 ((txt 7)) ((txt 5)) 3 ((txt 6)) ((txt 9)) 9 ((txt 11))), txt 13, txt 0, txt 2, txt 3, txt 10])), (ga2, 9, cu2), (kb179, 4, boc (knownF (tW 21) [txt 1, encB (mkB 1 1 ((txt 7)) ((txt 5)) 3 ((txt 6)) ((txt 9)) 9 ((txt 11))), txt 13, txt 0, txt 2, txt 3])), (kb126, 4, boc (knownF (tW 21) [txt 1, encB (mkB 1 1 ((txt 7)) ((txt 5)) 3 ((txt 6)) ((txt 9)) 9 ((txt 11))), txt 13, txt 0, txt 2])), (kb77, 4, boc (knownF (tW 21) [txt 1, encB (mkB 1 1 ((txt 7)) ((txt 5)) 3 ((txt 6)) ((txt 9)) 9 ((txt 11))), txt 13])), (q52, 3, c53)] w234 := h235
            refine ⟨_, rfl, _, .inl ky, h236, ?_⟩
            refine wx_val (i := 5) (iN .i64 20) rfl rfl ky ky (fun w' h' => run_load1 (fun w => Tryz.isAgg3 w) ky (((h'.get 5 rfl).cell 0).trans hc57)) ?_
            refine wx_pure (i := 6) (.pointer (some ⟨kb228, 20, none⟩)) rfl rfl ky ky (fun _ => (run_addr_slice (q := kb228) (n := es.length) (m := es.length) (a := 20) Tryz.underlying87 (fun w => Tryz.sizeOf4 w) ky ky (by omega))) ?_
            refine wx_val (i := 7) (.bool true) rfl rfl ky ky (fun w' h' => run_load1 (fun w => Tryz.isAgg4 w) ky (((h'.get 0 rfl).cell 20).trans (boc_at2 kn3_W))) ?_
            refine zp 8 (.bool true) ?_
            refine wx_end fun w237 hbx _ => ?_
            have h238 := HA.keep _ _ h236 hbx
            exact ⟨kb228, by kernel_rfl, h238⟩
          · refine ex_doT rfl ky h215 fun w239 h240 => ⟨iN .i64 20, w239, run_load1 (fun w => Tryz.isAgg3 w) ky (((h240.get 4 rfl).cell 0).trans hc57), ?_⟩
            refine ⟨_, .inl ky, h240, ?_⟩
            refine wx_one 2 ky ?_
            refine ex_callx rfl ky h240 enter37 #[.pointer (some ⟨tc.q, 0, none⟩), .slice (some ⟨ga2, 0, none⟩) 7 ca2] ky (fun w249 h250 => Known_E (hTc.keep h250.old.old) hok (by omega) (cell_below h250.old.old hvT) [txt 1, encB (mkB 1 1 ((txt 7)) ((txt 5)) 3 ((txt 6)) ((txt 9)) 9 ((txt 11))), txt 13, txt 0, txt 2, txt 3, txt 10] (m := 7) rfl hc2x (h250.get 0 rfl) sz3_W (by decide) hz) ?_
            rintro w249 h250 _ w251 ⟨kb245, rfl, hl246, hk247, hb248⟩
            have h252 := HA.addNew h250 hb248 hl246 hk247
            have h253 : HA (bs wT) [(kb245, 4, boc (knownF (tW 21) [txt 1, encB (mkB 1 1 ((txt 7)) ((txt 5)) 3 ((txt 6)) ((txt 9)) 9 ((txt 11))), txt 13, txt 0, txt 2, txt 3, txt 10])), (ga2, 9, cu2), (kb179, 4, boc (knownF (tW 21) [txt 1, encB (mkB 1 1 ((txt 7)) ((txt 5)) 3 ((txt 6)) ((txt 9)) 9 ((txt 11))), txt 13, txt 0, txt 2, txt 3])), (kb126, 4, boc (knownF (tW 21) [txt 1, encB (mkB 1 1 ((txt 7)) ((txt 5)) 3 ((txt 6)) ((txt 9)) 9 ((txt 11))), txt 13, txt 0, txt 2])), (kb77, 4, boc (knownF (tW 21) [txt 1, encB (mkB 1 1 ((txt 7)) ((txt 5)) 3 ((txt 6)) ((txt 9)) 9 ((txt 11))), txt 13])), (q52, 3, c53)] w251 := h252
            refine ⟨_, rfl, _, .inl ky, h253, ?_⟩
            refine wx_pure (i := 6) (.pointer (some ⟨kb245, 20, none⟩)) rfl rfl ky ky (fun _ => (run_addr_slice (q := kb245) (n := es.length) (m := es.length) (a := 20) Tryz.underlying87 (fun w => Tryz.sizeOf4 w) ky ky (by omega))) ?_
            refine wx_val (i := 7) (.bool true) rfl rfl ky ky (fun w' h' => run_load1 (fun w => Tryz.isAgg4 w) ky (((h'.get 0 rfl).cell 20).trans (boc_at2 kn3_W))) ?_
            refine zp 8 (.bool true) ?_
            refine wx_end fun w254 hbx _ => ?_
            have h255 := HA.keep _ _ h253 hbx
            exact ⟨kb245, by kernel_rfl, h255⟩
        · rintro _ w256 ⟨kb228, rfl, h257⟩
          refine then_at rfl ?_
          refine wp_ret ?_
          repeat first | refine then_ret ?_ | refine block_ret ?_
          exact bodyPost_ret (v := .bool true) ky rfl ⟨rfl, belowT hbw h257.old.old⟩
theorem len_F : (tF 18).length = 18 := by kernel_rfl
theorem wth_F : wth 18 (txt 17) = [17] := by rw [wth_2]; kernel_rfl
theorem siz_F : (encB (mkB 1 1 ((txt 7)) ((txt 5)) 3 ((txt 6)) ((txt 9)) 0 ({ data := #[] }))).size ≤ 1000 := Nat.le_of_ble_eq_true ky
theorem kn0_F : (knownF (tF 18) [txt 1, encB (mkB 1 1 ((txt 7)) ((txt 5)) 3 ((txt 6)) ((txt 9)) 0 ({ data := #[] })), txt 11]).getD 17 true = false := by
  rw [known_2 len_F (ss := [txt 1, encB (mkB 1 1 ((txt 7)) ((txt 5)) 3 ((txt 6)) ((txt 9)) 0 ({ data := #[] })), txt 11]) rfl rfl rfl]
  kernel_rfl
theorem sz0_F : ∀ s ∈ ([txt 1, encB (mkB 1 1 ((txt 7)) ((txt 5)) 3 ((txt 6)) ((txt 9)) 0 ({ data := #[] })), txt 11] : List ByteArray), s.size ≤ 1000 := by
  intro s hs
  simp only [List.mem_cons, List.not_mem_nil, or_false] at hs
  rcases hs with rfl | rfl | rfl
  · rw [txt_size]; decide
  · exact siz_F
  · rw [txt_size]; decide
theorem kn1_F : (knownF (tF 18) [txt 1, encB (mkB 1 1 ((txt 7)) ((txt 5)) 3 ((txt 6)) ((txt 9)) 0 ({ data := #[] })), txt 11, txt 0, txt 2]).getD 17 true = false := by
  rw [known_2 len_F (ss := [txt 1, encB (mkB 1 1 ((txt 7)) ((txt 5)) 3 ((txt 6)) ((txt 9)) 0 ({ data := #[] })), txt 11, txt 0, txt 2]) rfl rfl rfl]
  kernel_rfl
theorem sz1_F : ∀ s ∈ ([txt 1, encB (mkB 1 1 ((txt 7)) ((txt 5)) 3 ((txt 6)) ((txt 9)) 0 ({ data := #[] })), txt 11, txt 0, txt 2] : List ByteArray), s.size ≤ 1000 := by
  intro s hs
  simp only [List.mem_cons, List.not_mem_nil, or_false] at hs
  rcases hs with rfl | rfl | rfl | rfl | rfl
  · rw [txt_size]; decide
  · exact siz_F
  · rw [txt_size]; decide
  · rw [txt_size]; decide
  · rw [txt_size]; decide
theorem kn2_F : (knownF (tF 18) [txt 1, encB (mkB 1 1 ((txt 7)) ((txt 5)) 3 ((txt 6)) ((txt 9)) 0 ({ data := #[] })), txt 11, txt 0, txt 2, txt 3]).getD 17 false = true := by
  rw [known_2 len_F (ss := [txt 1, encB (mkB 1 1 ((txt 7)) ((txt 5)) 3 ((txt 6)) ((txt 9)) 0 ({ data := #[] })), txt 11, txt 0, txt 2, txt 3]) rfl rfl rfl]
  kernel_rfl
theorem sz2_F : ∀ s ∈ ([txt 1, encB (mkB 1 1 ((txt 7)) ((txt 5)) 3 ((txt 6)) ((txt 9)) 0 ({ data := #[] })), txt 11, txt 0, txt 2, txt 3] : List ByteArray), s.size ≤ 1000 := by
  intro s hs
  simp only [List.mem_cons, List.not_mem_nil, or_false] at hs
  rcases hs with rfl | rfl | rfl | rfl | rfl | rfl
  · rw [txt_size]; decide
  · exact siz_F
  · rw [txt_size]; decide
  · rw [txt_size]; decide
  · rw [txt_size]; decide
  · rw [txt_size]; decide
theorem kn3_F : (knownF (tF 18) [txt 1, encB (mkB 1 1 ((txt 7)) ((txt 5)) 3 ((txt 6)) ((txt 9)) 0 ({ data := #[] })), txt 11, txt 0, txt 2, txt 3, { data := #[] }]).getD 17 false = true := by
  rw [known_2 len_F (ss := [txt 1, encB (mkB 1 1 ((txt 7)) ((txt 5)) 3 ((txt 6)) ((txt 9)) 0 ({ data := #[] })), txt 11, txt 0, txt 2, txt 3, { data := #[] }]) rfl rfl rfl]
  kernel_rfl
theorem sz3_F : ∀ s ∈ ([txt 1, encB (mkB 1 1 ((txt 7)) ((txt 5)) 3 ((txt 6)) ((txt 9)) 0 ({ data := #[] })), txt 11, txt 0, txt 2, txt 3, { data := #[] }] : List ByteArray), s.size ≤ 1000 := by
  intro s hs
  simp only [List.mem_cons, List.not_mem_nil, or_false] at hs
  rcases hs with rfl | rfl | rfl | rfl | rfl | rfl | rfl
  · rw [txt_size]; decide
  · exact siz_F
  · rw [txt_size]; decide
  · rw [txt_size]; decide
  · rw [txt_size]; decide
  · rw [txt_size]; decide
  · exact Nat.zero_le _
set_option maxRecDepth 100000 in
set_option maxHeartbeats 8000000 in
theorem hidden_F {w : World} {m0 : Int} (hv : w.cell? ⟨0, 0, none⟩ = some (.int .i64 m0)) :
    Calls Tryz.prog 6 #[.bool false] w fun e w' => e = .returned (.bool true) ∧ Below w.heap.size w w' := by
  have H0 : HA ⟨w, []⟩ [] w := HA.start w
  go_enter Tryz.func6, Tryz.ntmps6
  refine wp_seq (wl_region ?_)
  refine zv (.bool false) ?_
  refine wl_nil (then_at rfl (wp_seq (wp_seq (wl_region ?_))))
  refine wl_call (v := .bool true) H0 ky enter14 #[] ky (works_P w) ?_
  intro w1 h2
  refine zv (.bool false) ?_
  refine wl_nil (then_at rfl ?_)
  refine wp_cond_false ky ?_
  refine wp_skip (then_at rfl (wp_seq (wl_region ?_)))
  refine wl_callx ky enter15 #[iN .i64 1] ky (New_P h2) ?_
  rintro _ w5 ⟨p3, rfl, hD4⟩
  refine ⟨_, rfl, ?_⟩
  obtain ⟨z6, X7, hcl8, hbe9, h10⟩ := PH.front hD4
  have h11 : HA z6 X7 w5 := h10
  refine zv (.tuple #[.pointer (some ⟨p3.q, 0, none⟩), iN .i64 0]) ?_
  refine zv (.pointer (some ⟨p3.q, 0, none⟩)) ?_
  refine zv (iN .i64 0) ?_
  refine zv (.pointer (some ⟨p3.q, 0, none⟩)) ?_
  refine zv (iN .i64 0) ?_
  refine wl_nil (then_at rfl (wp_seq (wl_region ?_)))
  refine zv (.pointer (some ⟨p3.q, 0, none⟩)) ?_
  refine wl_callx ky enter18 #[.pointer (some ⟨p3.q, 0, none⟩), .string ({ data := #[] })] ky (Secret_E (hcl8 ([]) _ h11) { data := #[] } (Nat.lt_of_lt_of_le (tF_lt 0) (by decide)) Fq0 Fq1) ?_
  rintro _ w13 ⟨rfl, hD12⟩
  refine ⟨_, rfl, ?_⟩
  obtain ⟨z14, X15, hcl16, hbe17, h18⟩ := PH.front hD12
  have h19 : HA z14 X15 w13 := h18
  refine zv (.string ((txt 0))) ?_
  refine wl_nil (then_at rfl (wp_seq (wl_region ?_)))
  refine zv (.pointer (some ⟨p3.q, 0, none⟩)) ?_
  refine zv (.string ((txt 0))) ?_
  refine wl_callx ky enter33 #[.pointer (some ⟨p3.q, 0, none⟩), .string ((txt 0))] ky (Public_E (hcl16 ([]) _ h19) (txt 0) (txL _) (Nat.lt_of_lt_of_le (tF_lt 1) (by decide)) Fq2) ?_
  rintro _ w21 ⟨rfl, hD20⟩
  refine ⟨_, rfl, ?_⟩
  obtain ⟨z22, X23, hcl24, hbe25, h26⟩ := PH.front hD20
  have h27 : HA z22 X23 w21 := h26
  refine zv (.tuple #[.string ((txt 1)), iN .i64 0]) ?_
  refine zv (.string ((txt 1))) ?_
  refine zv (iN .i64 0) ?_
  refine zv (.string ((txt 1))) ?_
  refine zv (iN .i64 0) ?_
  refine wl_nil (then_at rfl (wp_seq (wl_region ?_)))
  refine zv (.pointer (some ⟨p3.q, 0, none⟩)) ?_
  refine zv (.agg #[.string ({ data := #[] }), .string ({ data := #[] }), .string ({ data := #[] }), .string ({ data := #[] })]) ?_
  refine zv (.bool false) ?_
  refine wl_callx ky enter34 #[.pointer (some ⟨p3.q, 0, none⟩), .agg #[.string ({ data := #[] }), .string ({ data := #[] }), .string ({ data := #[] }), .string ({ data := #[] })], .bool false] ky (made_F (hcl24 ([]) _ h27) (by decide)) ?_
  rintro _ w29 ⟨rfl, hD28⟩
  refine ⟨_, rfl, ?_⟩
  obtain ⟨z30, X31, hcl32, hbe33, h34⟩ := PH.front hD28
  have h35 : HA z30 X31 w29 := h34
  refine zv (.tuple #[.agg (dvC ((txt 2)) ((txt 3)) ({ data := #[] }) ((txt 5)) (mkB 1 1 ((txt 7)) ((txt 5)) 3 ((txt 6)) ((txt 9)) 0 ({ data := #[] }))), .bool true]) ?_
  refine zv (.agg (dvC ((txt 2)) ((txt 3)) ({ data := #[] }) ((txt 5)) (mkB 1 1 ((txt 7)) ((txt 5)) 3 ((txt 6)) ((txt 9)) 0 ({ data := #[] })))) ?_
  refine zv (.bool true) ?_
  refine wl_make (c := dvC ({ data := #[] }) ({ data := #[] }) ({ data := #[] }) ({ data := #[] }) (mkB 0 0 ({ data := #[] }) ({ data := #[] }) 0 ({ data := #[] }) ({ data := #[] }) 0 ({ data := #[] }))) h35 77 ky ky ?_
  intro q36 w37 (h38 : HA z30 ((q36, 77, dvC ({ data := #[] }) ({ data := #[] }) ({ data := #[] }) ({ data := #[] }) (mkB 0 0 ({ data := #[] }) ({ data := #[] }) 0 ({ data := #[] }) ({ data := #[] }) 0 ({ data := #[] }))) :: X31) w37)
  refine wl_fill (c' := dvC ((txt 2)) ((txt 3)) ({ data := #[] }) ((txt 5)) (mkB 1 1 ((txt 7)) ((txt 5)) 3 ((txt 6)) ((txt 9)) 0 ({ data := #[] }))) h38 0 rfl ky ky ky rfl ky ky ?_
  intro w39 (h40 : HA z30 ((q36, 77, dvC ((txt 2)) ((txt 3)) ({ data := #[] }) ((txt 5)) (mkB 1 1 ((txt 7)) ((txt 5)) 3 ((txt 6)) ((txt 9)) 0 ({ data := #[] }))) :: X31) w39)
  refine zv (.bool true) ?_
  refine wl_nil (then_at rfl (wp_seq (wl_region ?_)))
  refine zv (.pointer (some ⟨p3.q, 0, none⟩)) ?_
  refine zv (.string ((txt 0))) ?_
  refine zv (.pointer (some ⟨q36, 4, none⟩)) ?_
  refine zu (.agg (buC (mkB 1 1 ((txt 7)) ((txt 5)) 3 ((txt 6)) ((txt 9)) 0 ({ data := #[] })))) (run_load_part (q := q36) (off := 4) (d := buC (mkB 1 1 ((txt 7)) ((txt 5)) 3 ((txt 6)) ((txt 9)) 0 ({ data := #[] }))) ky (h40.get 0 rfl) Tryz.underlying23 rfl ky (by intro j hj; match j, hj with | 0, _ => rfl | 1, _ => rfl | 2, _ => rfl | 3, _ => rfl | 4, _ => rfl | 5, _ => rfl | 6, _ => rfl | 7, _ => rfl | 8, _ => rfl)) ?_
  refine wl_callx ky enter27 #[.pointer (some ⟨p3.q, 0, none⟩), .string ((txt 0)), .agg (buC (mkB 1 1 ((txt 7)) ((txt 5)) 3 ((txt 6)) ((txt 9)) 0 ({ data := #[] }))), .string ({ data := #[] })] ky (begin_F (hcl32 ((q36, 77, dvC ((txt 2)) ((txt 3)) ({ data := #[] }) ((txt 5)) (mkB 1 1 ((txt 7)) ((txt 5)) 3 ((txt 6)) ((txt 9)) 0 ({ data := #[] }))) :: []) _ h40) (by decide)) ?_
  rintro _ w42 ⟨rfl, hD41⟩
  refine ⟨_, rfl, ?_⟩
  obtain ⟨z43, X44, hcl45, hbe46, h47⟩ := PH.front hD41
  have h48 : HA z43 ((q36, 77, dvC ((txt 2)) ((txt 3)) ({ data := #[] }) ((txt 5)) (mkB 1 1 ((txt 7)) ((txt 5)) 3 ((txt 6)) ((txt 9)) 0 ({ data := #[] }))) :: X44) w42 := h47
  refine zv (.tuple #[.string ((txt 17)), .string ((txt 11)), iN .i64 0]) ?_
  refine zv (.string ((txt 17))) ?_
  refine zv (.string ((txt 11))) ?_
  refine zv (iN .i64 0) ?_
  refine zv (.string ((txt 17))) ?_
  refine zv (.string ((txt 11))) ?_
  refine zv (iN .i64 0) ?_
  refine wl_nil (then_at rfl (wp_seq (wl_region ?_)))
  refine zv (.pointer (some ⟨q36, 4, none⟩)) ?_
  refine zu (.agg (buC (mkB 1 1 ((txt 7)) ((txt 5)) 3 ((txt 6)) ((txt 9)) 0 ({ data := #[] })))) (run_load_part (q := q36) (off := 4) (d := buC (mkB 1 1 ((txt 7)) ((txt 5)) 3 ((txt 6)) ((txt 9)) 0 ({ data := #[] }))) ky (h48.get 0 rfl) Tryz.underlying23 rfl ky (by intro j hj; match j, hj with | 0, _ => rfl | 1, _ => rfl | 2, _ => rfl | 3, _ => rfl | 4, _ => rfl | 5, _ => rfl | 6, _ => rfl | 7, _ => rfl | 8, _ => rfl)) ?_
  refine wl_call (v := .tuple #[.string ((encB (mkB 1 1 ((txt 7)) ((txt 5)) 3 ((txt 6)) ((txt 9)) 0 ({ data := #[] })))), iN .i64 0]) h48 ky enter10 #[.agg (buC (mkB 1 1 ((txt 7)) ((txt 5)) 3 ((txt 6)) ((txt 9)) 0 ({ data := #[] })))] ky (enc_E (encA_y Fq14)) ?_
  intro w49 h50
  refine zv (.tuple #[.string ((encB (mkB 1 1 ((txt 7)) ((txt 5)) 3 ((txt 6)) ((txt 9)) 0 ({ data := #[] })))), iN .i64 0]) ?_
  refine zv (.string ((encB (mkB 1 1 ((txt 7)) ((txt 5)) 3 ((txt 6)) ((txt 9)) 0 ({ data := #[] }))))) ?_
  refine zv (iN .i64 0) ?_
  refine zv (.string ((encB (mkB 1 1 ((txt 7)) ((txt 5)) 3 ((txt 6)) ((txt 9)) 0 ({ data := #[] }))))) ?_
  refine zv (iN .i64 0) ?_
  refine wl_nil (then_at rfl (wp_seq (wl_region ?_)))
  refine zv (.pointer (some ⟨p3.q, 0, none⟩)) ?_
  have hDx := (hcl45 ((q36, 77, dvC ((txt 2)) ((txt 3)) ({ data := #[] }) ((txt 5)) (mkB 1 1 ((txt 7)) ((txt 5)) 3 ((txt 6)) ((txt 9)) 0 ({ data := #[] }))) :: []) _ h50)
  obtain ⟨es, hz, hok, hT⟩ := PH.tv hDx
  have hes : es.length = 18 := by rw [← Z_len es, hz]; exact len_F
  refine wl_callx ky enter35 #[pt p3.q] ky (Table_P hDx hT hok.wf.few (by omega)) ?_
  rintro _ wT ⟨tc, rfl, hTc, hbT⟩
  refine ⟨_, rfl, ?_⟩
  have h51 := HA.keep _ _ h50 hbT
  have hb4 := h51.get 0 rfl
  have hbw : Below w.heap.size w wT := hbe46 _ _ h51
  have hvT := cell_below hbw hv
  have HT := HA.start wT
  refine zv (.pointer (some ⟨tc.q, 0, none⟩)) ?_
  refine wl_nil (then_at rfl (wp_seq (wl_region ?_)))
  refine zv (.pointer (some ⟨tc.q, 0, none⟩)) ?_
  refine zv (.string ((txt 17))) ?_
  refine wl_callx ky enter36 #[.pointer (some ⟨tc.q, 0, none⟩), .string ((txt 17))] ky (Within_E (hTc.keep HT.old.old) (by omega) (cell_below HT.old.old hvT) ((txt 17)) (by rw [txt_size]; decide) (x := 17) (by rw [hes]; exact wth_F)) ?_
  rintro _ w59 ⟨q52, c53, c54, rfl, hl55, hk56, hc57, hb58⟩
  refine ⟨_, rfl, ?_⟩
  have h60 := HA.addNew HT hb58 hl55 hk56
  refine zv (.slice (some ⟨q52, 0, none⟩) 1 c54) ?_
  refine wl_nil (then_at rfl (wp_seq (wp_seq (wl_region ?_))))
  refine zv (.bool true) ?_
  refine zv (.bool false) ?_
  refine zv (.bool false) ?_
  refine zv (iN .i64 0) ?_
  refine zv (.bool false) ?_
  refine zv (.bool false) ?_
  refine zv (.bool false) ?_
  refine zv (iN .i64 0) ?_
  refine zv (.bool false) ?_
  refine zv (.bool false) ?_
  refine zv (.bool false) ?_
  refine zv (.slice (some ⟨q52, 0, none⟩) 1 c54) ?_
  refine zv (iN .i64 1) ?_
  refine zu (.bool false) (run_nei (k := .i64) (a := 1) (b := 1) ky ky false (by decide)) ?_
  refine zv (.bool false) ?_
  refine wl_nil (then_at rfl ?_)
  refine wp_cond_false ky ?_
  refine wp_skip (then_at rfl (wp_seq (wl_region ?_)))
  refine zv (.string ((txt 1))) ?_
  refine zv (.string ((encB (mkB 1 1 ((txt 7)) ((txt 5)) 3 ((txt 6)) ((txt 9)) 0 ({ data := #[] }))))) ?_
  refine zv (.string ((txt 11))) ?_
  refine wl_mks (n := 3) (m := 3) (c := #[.string ((txt 1)), .string ((encB (mkB 1 1 ((txt 7)) ((txt 5)) 3 ((txt 6)) ((txt 9)) 0 ({ data := #[] })))), .string ((txt 11))]) h60 9 ky ky ?_
  intro q61 w62 (h63 : HA (bs wT) [(q61, 9, #[.string ((txt 1)), .string ((encB (mkB 1 1 ((txt 7)) ((txt 5)) 3 ((txt 6)) ((txt 9)) 0 ({ data := #[] })))), .string ((txt 11))]), (q52, 3, c53)] w62)
  refine zv (.slice (some ⟨q61, 0, none⟩) 3 3) ?_
  refine wl_nil ?_
  have hc0 : ∀ j, j < 3 → (#[.string ((txt 1)), .string ((encB (mkB 1 1 ((txt 7)) ((txt 5)) 3 ((txt 6)) ((txt 9)) 0 ({ data := #[] })))), .string ((txt 11))] : Array Value)[j]? = some (.string (([txt 1, encB (mkB 1 1 ((txt 7)) ((txt 5)) 3 ((txt 6)) ((txt 9)) 0 ({ data := #[] })), txt 11] : List ByteArray).getD j ByteArray.empty)) := fun j hj => by match j, hj with | 0, _ => rfl | 1, _ => rfl | 2, _ => rfl
  have hR0 : Row 9 1 (.slice (some ⟨q61, 0, none⟩) 3 3) 3 (([txt 1, encB (mkB 1 1 ((txt 7)) ((txt 5)) 3 ((txt 6)) ((txt 9)) 0 ({ data := #[] })), txt 11] : List ByteArray).map Value.string) [(q61, 9, #[.string ((txt 1)), .string ((encB (mkB 1 1 ((txt 7)) ((txt 5)) 3 ((txt 6)) ((txt 9)) 0 ({ data := #[] })))), .string ((txt 11))])] := ⟨rfl, .inr ⟨_, 3, _, rfl, rfl, Nat.le_refl _, by decide, rfl, rfl⟩⟩
  refine then_at rfl (wp_seq (wp_seq ?_))
  refine wp_region_wx (HA (bs wT) [(q61, 9, #[.string ((txt 1)), .string ((encB (mkB 1 1 ((txt 7)) ((txt 5)) 3 ((txt 6)) ((txt 9)) 0 ({ data := #[] })))), .string ((txt 11))]), (q52, 3, c53)]) (fun AQ w' => ∃ (kb77 : Nat), AQ = ⟨(.bool false :: un :: .bool false :: pt p3.q :: iN .i64 0 :: .string ((txt 0)) :: .string ((txt 1)) :: iN .i64 0 :: pt q36 :: .bool true :: .string ((txt 17)) :: .string ((txt 11)) :: iN .i64 0 :: .string ((encB (mkB 1 1 ((txt 7)) ((txt 5)) 3 ((txt 6)) ((txt 9)) 0 ({ data := #[] })))) :: iN .i64 0 :: pt tc.q :: .slice (some ⟨q52, 0, none⟩) 1 c54 :: .slice (some ⟨q61, 0, none⟩) 3 3 :: .bool true :: .bool false :: .tuple #[pt p3.q, iN .i64 0] :: .tuple #[pt p3.q, iN .i64 0] :: pt p3.q :: iN .i64 0 :: pt p3.q :: .string ((txt 0)) :: .tuple #[.string ((txt 1)), iN .i64 0] :: pt p3.q :: .string ((txt 0)) :: .tuple #[.string ((txt 1)), iN .i64 0] :: .string ((txt 1)) :: iN .i64 0 :: .tuple #[.agg (dvC ((txt 2)) ((txt 3)) ({ data := #[] }) ((txt 5)) (mkB 1 1 ((txt 7)) ((txt 5)) 3 ((txt 6)) ((txt 9)) 0 ({ data := #[] }))), .bool true] :: pt p3.q :: .agg #[.string ({ data := #[] }), .string ({ data := #[] }), .string ({ data := #[] }), .string ({ data := #[] })] :: .bool false :: .tuple #[.agg (dvC ((txt 2)) ((txt 3)) ({ data := #[] }) ((txt 5)) (mkB 1 1 ((txt 7)) ((txt 5)) 3 ((txt 6)) ((txt 9)) 0 ({ data := #[] }))), .bool true] :: .agg (dvC ((txt 2)) ((txt 3)) ({ data := #[] }) ((txt 5)) (mkB 1 1 ((txt 7)) ((txt 5)) 3 ((txt 6)) ((txt 9)) 0 ({ data := #[] }))) :: .bool true :: .tuple #[.string ((txt 17)), .string ((txt 11)), iN .i64 0] :: pt p3.q :: .string ((txt 0)) :: .pointer (some ⟨q36, 4, none⟩) :: .agg (buC (mkB 1 1 ((txt 7)) ((txt 5)) 3 ((txt 6)) ((txt 9)) 0 ({ data := #[] }))) :: .tuple #[.string ((txt 17)), .string ((txt 11)), iN .i64 0] :: .string ((txt 17)) :: .string ((txt 11)) :: iN .i64 0 :: .tuple #[.string ((encB (mkB 1 1 ((txt 7)) ((txt 5)) 3 ((txt 6)) ((txt 9)) 0 ({ data := #[] })))), iN .i64 0] :: .pointer (some ⟨q36, 4, none⟩) :: .agg (buC (mkB 1 1 ((txt 7)) ((txt 5)) 3 ((txt 6)) ((txt 9)) 0 ({ data := #[] }))) :: .tuple #[.string ((encB (mkB 1 1 ((txt 7)) ((txt 5)) 3 ((txt 6)) ((txt 9)) 0 ({ data := #[] })))), iN .i64 0] :: .string ((encB (mkB 1 1 ((txt 7)) ((txt 5)) 3 ((txt 6)) ((txt 9)) 0 ({ data := #[] })))) :: iN .i64 0 :: pt p3.q :: pt tc.q :: pt tc.q :: .string ((txt 17)) :: .slice (some ⟨q52, 0, none⟩) 1 c54 :: .bool true :: .bool false :: .bool false :: iN .i64 0 :: .bool false :: .bool false :: .bool false :: iN .i64 0 :: .bool false :: .bool false :: .bool false :: .slice (some ⟨q52, 0, none⟩) 1 c54 :: iN .i64 1 :: .bool false :: .bool false :: .string ((txt 1)) :: .string ((encB (mkB 1 1 ((txt 7)) ((txt 5)) 3 ((txt 6)) ((txt 9)) 0 ({ data := #[] })))) :: .string ((txt 11)) :: .slice (some ⟨q61, 0, none⟩) 3 3 :: pt tc.q :: .slice (some ⟨q61, 0, none⟩) 3 3 :: .slice (some ⟨kb77, 0, none⟩) es.length es.length :: .slice (some ⟨q52, 0, none⟩) 1 c54 :: pt q52 :: iN .i64 17 :: .pointer (some ⟨kb77, 17, none⟩) :: .bool false :: List.replicate 42 un).toArray, []⟩ ∧ HA (bs wT) [(kb77, 4, boc (knownF (tF 18) [txt 1, encB (mkB 1 1 ((txt 7)) ((txt 5)) 3 ((txt 6)) ((txt 9)) 0 ({ data := #[] })), txt 11])), (q61, 9, #[.string ((txt 1)), .string ((encB (mkB 1 1 ((txt 7)) ((txt 5)) 3 ((txt 6)) ((txt 9)) 0 ({ data := #[] })))), .string ((txt 11))]), (q52, 3, c53)] w') 8 ky ky ky ky ky (h63.drew) ?_ ?_
  · have h64 := h63.drew
    refine zp 0 (.pointer (some ⟨tc.q, 0, none⟩)) ?_
    refine zp 1 (.slice (some ⟨q61, 0, none⟩) 3 3) ?_
    refine zp 3 (.slice (some ⟨q52, 0, none⟩) 1 c54) ?_
    refine wx_pure (i := 4) (.pointer (some ⟨q52, 0, none⟩)) rfl rfl ky ky (fun _ => (run_addr_slice (q := q52) (n := 1) (m := c54) (a := 0) Tryz.underlying84 (fun w => Tryz.sizeOf3 w) ky ky (by decide))) ?_
    refine wx_two 2 5 ky ?_ ?_
    · refine ex_callx rfl ky h64 enter37 #[.pointer (some ⟨tc.q, 0, none⟩), .slice (some ⟨q61, 0, none⟩) 3 3] ky (fun w81 h82 => Known_E (hTc.keep h82.old.old) hok (by omega) (cell_below h82.old.old hvT) [txt 1, encB (mkB 1 1 ((txt 7)) ((txt 5)) 3 ((txt 6)) ((txt 9)) 0 ({ data := #[] })), txt 11] (m := 3) rfl hc0 (h82.get 0 rfl) sz0_F (by decide) hz) ?_
      rintro w81 h82 _ w83 ⟨kb77, rfl, hl78, hk79, hb80⟩
      have h84 := HA.addNew h82 hb80 hl78 hk79
      have h85 : HA (bs wT) [(kb77, 4, boc (knownF (tF 18) [txt 1, encB (mkB 1 1 ((txt 7)) ((txt 5)) 3 ((txt 6)) ((txt 9)) 0 ({ data := #[] })), txt 11])), (q61, 9, #[.string ((txt 1)), .string ((encB (mkB 1 1 ((txt 7)) ((txt 5)) 3 ((txt 6)) ((txt 9)) 0 ({ data := #[] })))), .string ((txt 11))]), (q52, 3, c53)] w83 := h84
      refine ⟨_, rfl, _, .inl ky, h85, ?_⟩
      refine wx_val (i := 5) (iN .i64 17) rfl rfl ky ky (fun w' h' => run_load1 (fun w => Tryz.isAgg3 w) ky (((h'.get 2 rfl).cell 0).trans hc57)) ?_
      refine wx_pure (i := 6) (.pointer (some ⟨kb77, 17, none⟩)) rfl rfl ky ky (fun _ => (run_addr_slice (q := kb77) (n := es.length) (m := es.length) (a := 17) Tryz.underlying87 (fun w => Tryz.sizeOf4 w) ky ky (by omega))) ?_
      refine wx_val (i := 7) (.bool false) rfl rfl ky ky (fun w' h' => run_load1 (fun w => Tryz.isAgg4 w) ky (((h'.get 0 rfl).cell 17).trans (boc_at kn0_F))) ?_
      refine wx_end fun w86 hbx _ => ?_
      have h87 := HA.keep _ _ h85 hbx
      exact ⟨kb77, by kernel_rfl, h87⟩
    · refine ex_doT rfl ky h64 fun w88 h89 => ⟨iN .i64 17, w88, run_load1 (fun w => Tryz.isAgg3 w) ky (((h89.get 1 rfl).cell 0).trans hc57), ?_⟩
      refine ⟨_, .inl ky, h89, ?_⟩
      refine wx_one 2 ky ?_
      refine ex_callx rfl ky h89 enter37 #[.pointer (some ⟨tc.q, 0, none⟩), .slice (some ⟨q61, 0, none⟩) 3 3] ky (fun w98 h99 => Known_E (hTc.keep h99.old.old) hok (by omega) (cell_below h99.old.old hvT) [txt 1, encB (mkB 1 1 ((txt 7)) ((txt 5)) 3 ((txt 6)) ((txt 9)) 0 ({ data := #[] })), txt 11] (m := 3) rfl hc0 (h99.get 0 rfl) sz0_F (by decide) hz) ?_
      rintro w98 h99 _ w100 ⟨kb94, rfl, hl95, hk96, hb97⟩
      have h101 := HA.addNew h99 hb97 hl95 hk96
      have h102 : HA (bs wT) [(kb94, 4, boc (knownF (tF 18) [txt 1, encB (mkB 1 1 ((txt 7)) ((txt 5)) 3 ((txt 6)) ((txt 9)) 0 ({ data := #[] })), txt 11])), (q61, 9, #[.string ((txt 1)), .string ((encB (mkB 1 1 ((txt 7)) ((txt 5)) 3 ((txt 6)) ((txt 9)) 0 ({ data := #[] })))), .string ((txt 11))]), (q52, 3, c53)] w100 := h101
      refine ⟨_, rfl, _, .inl ky, h102, ?_⟩
      refine wx_pure (i := 6) (.pointer (some ⟨kb94, 17, none⟩)) rfl rfl ky ky (fun _ => (run_addr_slice (q := kb94) (n := es.length) (m := es.length) (a := 17) Tryz.underlying87 (fun w => Tryz.sizeOf4 w) ky ky (by omega))) ?_
      refine wx_val (i := 7) (.bool false) rfl rfl ky ky (fun w' h' => run_load1 (fun w => Tryz.isAgg4 w) ky (((h'.get 0 rfl).cell 17).trans (boc_at kn0_F))) ?_
      refine wx_end fun w103 hbx _ => ?_
      have h104 := HA.keep _ _ h102 hbx
      exact ⟨kb94, by kernel_rfl, h104⟩
  · rintro _ w105 ⟨kb77, rfl, h106⟩
    refine then_at rfl ?_
    refine wp_cond_false ky ?_
    refine wp_skip (then_at rfl (wp_seq (wl_region ?_)))
    refine zv (.slice (some ⟨q61, 0, none⟩) 3 3) ?_
    refine zv (.string ((txt 0))) ?_
    refine zv (.pointer (some ⟨q36, 0, none⟩)) ?_
    refine zu (.string ((txt 2))) (run_load1 (fun w => Tryz.isAgg9 w) ky (((hb4.keep h106.old.old).cell 0).trans rfl)) ?_
    refine wl_mks (n := 2) (m := 2) (c := #[.string ((txt 0)), .string ((txt 2))]) h106 9 ky ky ?_
    intro q107 w108 (h109 : HA (bs wT) [(q107, 9, #[.string ((txt 0)), .string ((txt 2))]), (kb77, 4, boc (knownF (tF 18) [txt 1, encB (mkB 1 1 ((txt 7)) ((txt 5)) 3 ((txt 6)) ((txt 9)) 0 ({ data := #[] })), txt 11])), (q61, 9, #[.string ((txt 1)), .string ((encB (mkB 1 1 ((txt 7)) ((txt 5)) 3 ((txt 6)) ((txt 9)) 0 ({ data := #[] })))), .string ((txt 11))]), (q52, 3, c53)] w108)
    refine wl_append (m := 2) (c := 2) (Lr := [(q61, 9, #[.string ((txt 1)), .string ((encB (mkB 1 1 ((txt 7)) ((txt 5)) 3 ((txt 6)) ((txt 9)) 0 ({ data := #[] })))), .string ((txt 11))])]) hR0 (HA.perm h109 (List.Perm.cons _ (List.Perm.swap _ _ _))) (by decide) _ 16 Tryz.underlying86 infos9 rfl (by decide) ky ky ky rfl ky (by unfold maxLen; omega) (by omega) (by decide) ?_
    intro va0 w110 La0 hRa0 h111
    have hRb0 : Row 9 1 va0 5 (([txt 1, encB (mkB 1 1 ((txt 7)) ((txt 5)) 3 ((txt 6)) ((txt 9)) 0 ({ data := #[] })), txt 11, txt 0, txt 2] : List ByteArray).map Value.string) La0 := hRa0
    obtain ⟨ga0, ca0, cu0, rfl, rfl, hc0x⟩ := hRb0.texts (by decide)
    have h112 : HA (bs wT) [(ga0, 9, cu0), (kb77, 4, boc (knownF (tF 18) [txt 1, encB (mkB 1 1 ((txt 7)) ((txt 5)) 3 ((txt 6)) ((txt 9)) 0 ({ data := #[] })), txt 11])), (q52, 3, c53)] w110 := h111
    refine zv (.slice (some ⟨ga0, 0, none⟩) 5 ca0) ?_
    refine wl_nil (then_at rfl (wp_seq (wp_seq ?_)))
    refine wp_region_wx (HA (bs wT) [(ga0, 9, cu0), (kb77, 4, boc (knownF (tF 18) [txt 1, encB (mkB 1 1 ((txt 7)) ((txt 5)) 3 ((txt 6)) ((txt 9)) 0 ({ data := #[] })), txt 11])), (q52, 3, c53)]) (fun AQ w' => ∃ (kb126 : Nat), AQ = ⟨(.bool false :: un :: .bool false :: pt p3.q :: iN .i64 0 :: .string ((txt 0)) :: .string ((txt 1)) :: iN .i64 0 :: pt q36 :: .bool true :: .string ((txt 17)) :: .string ((txt 11)) :: iN .i64 0 :: .string ((encB (mkB 1 1 ((txt 7)) ((txt 5)) 3 ((txt 6)) ((txt 9)) 0 ({ data := #[] })))) :: iN .i64 0 :: pt tc.q :: .slice (some ⟨q52, 0, none⟩) 1 c54 :: .slice (some ⟨ga0, 0, none⟩) 5 ca0 :: .bool true :: .bool false :: .tuple #[pt p3.q, iN .i64 0] :: .tuple #[pt p3.q, iN .i64 0] :: pt p3.q :: iN .i64 0 :: pt p3.q :: .string ((txt 0)) :: .tuple #[.string ((txt 1)), iN .i64 0] :: pt p3.q :: .string ((txt 0)) :: .tuple #[.string ((txt 1)), iN .i64 0] :: .string ((txt 1)) :: iN .i64 0 :: .tuple #[.agg (dvC ((txt 2)) ((txt 3)) ({ data := #[] }) ((txt 5)) (mkB 1 1 ((txt 7)) ((txt 5)) 3 ((txt 6)) ((txt 9)) 0 ({ data := #[] }))), .bool true] :: pt p3.q :: .agg #[.string ({ data := #[] }), .string ({ data := #[] }), .string ({ data := #[] }), .string ({ data := #[] })] :: .bool false :: .tuple #[.agg (dvC ((txt 2)) ((txt 3)) ({ data := #[] }) ((txt 5)) (mkB 1 1 ((txt 7)) ((txt 5)) 3 ((txt 6)) ((txt 9)) 0 ({ data := #[] }))), .bool true] :: .agg (dvC ((txt 2)) ((txt 3)) ({ data := #[] }) ((txt 5)) (mkB 1 1 ((txt 7)) ((txt 5)) 3 ((txt 6)) ((txt 9)) 0 ({ data := #[] }))) :: .bool true :: .tuple #[.string ((txt 17)), .string ((txt 11)), iN .i64 0] :: pt p3.q :: .string ((txt 0)) :: .pointer (some ⟨q36, 4, none⟩) :: .agg (buC (mkB 1 1 ((txt 7)) ((txt 5)) 3 ((txt 6)) ((txt 9)) 0 ({ data := #[] }))) :: .tuple #[.string ((txt 17)), .string ((txt 11)), iN .i64 0] :: .string ((txt 17)) :: .string ((txt 11)) :: iN .i64 0 :: .tuple #[.string ((encB (mkB 1 1 ((txt 7)) ((txt 5)) 3 ((txt 6)) ((txt 9)) 0 ({ data := #[] })))), iN .i64 0] :: .pointer (some ⟨q36, 4, none⟩) :: .agg (buC (mkB 1 1 ((txt 7)) ((txt 5)) 3 ((txt 6)) ((txt 9)) 0 ({ data := #[] }))) :: .tuple #[.string ((encB (mkB 1 1 ((txt 7)) ((txt 5)) 3 ((txt 6)) ((txt 9)) 0 ({ data := #[] })))), iN .i64 0] :: .string ((encB (mkB 1 1 ((txt 7)) ((txt 5)) 3 ((txt 6)) ((txt 9)) 0 ({ data := #[] })))) :: iN .i64 0 :: pt p3.q :: pt tc.q :: pt tc.q :: .string ((txt 17)) :: .slice (some ⟨q52, 0, none⟩) 1 c54 :: .bool true :: .bool false :: .bool false :: iN .i64 0 :: .bool false :: .bool false :: .bool false :: iN .i64 0 :: .bool false :: .bool false :: .bool false :: .slice (some ⟨q52, 0, none⟩) 1 c54 :: iN .i64 1 :: .bool false :: .bool false :: .string ((txt 1)) :: .string ((encB (mkB 1 1 ((txt 7)) ((txt 5)) 3 ((txt 6)) ((txt 9)) 0 ({ data := #[] })))) :: .string ((txt 11)) :: .slice (some ⟨q61, 0, none⟩) 3 3 :: pt tc.q :: .slice (some ⟨q61, 0, none⟩) 3 3 :: .slice (some ⟨kb77, 0, none⟩) es.length es.length :: .slice (some ⟨q52, 0, none⟩) 1 c54 :: pt q52 :: iN .i64 17 :: .pointer (some ⟨kb77, 17, none⟩) :: .bool false :: .slice (some ⟨q61, 0, none⟩) 3 3 :: .string ((txt 0)) :: pt q36 :: .string ((txt 2)) :: .slice (some ⟨q107, 0, none⟩) 2 2 :: .slice (some ⟨ga0, 0, none⟩) 5 ca0 :: pt tc.q :: .slice (some ⟨ga0, 0, none⟩) 5 ca0 :: .slice (some ⟨kb126, 0, none⟩) es.length es.length :: .slice (some ⟨q52, 0, none⟩) 1 c54 :: pt q52 :: iN .i64 17 :: .pointer (some ⟨kb126, 17, none⟩) :: .bool false :: List.replicate 28 un).toArray, []⟩ ∧ HA (bs wT) [(kb126, 4, boc (knownF (tF 18) [txt 1, encB (mkB 1 1 ((txt 7)) ((txt 5)) 3 ((txt 6)) ((txt 9)) 0 ({ data := #[] })), txt 11, txt 0, txt 2])), (ga0, 9, cu0), (kb77, 4, boc (knownF (tF 18) [txt 1, encB (mkB 1 1 ((txt 7)) ((txt 5)) 3 ((txt 6)) ((txt 9)) 0 ({ data := #[] })), txt 11])), (q52, 3, c53)] w') 8 ky ky ky ky ky (h112.drew) ?_ ?_
    · have h113 := h112.drew
      refine zp 0 (.pointer (some ⟨tc.q, 0, none⟩)) ?_
      refine zp 1 (.slice (some ⟨ga0, 0, none⟩) 5 ca0) ?_
      refine zp 3 (.slice (some ⟨q52, 0, none⟩) 1 c54) ?_
      refine wx_pure (i := 4) (.pointer (some ⟨q52, 0, none⟩)) rfl rfl ky ky (fun _ => (run_addr_slice (q := q52) (n := 1) (m := c54) (a := 0) Tryz.underlying84 (fun w => Tryz.sizeOf3 w) ky ky (by decide))) ?_
      refine wx_two 2 5 ky ?_ ?_
      · refine ex_callx rfl ky h113 enter37 #[.pointer (some ⟨tc.q, 0, none⟩), .slice (some ⟨ga0, 0, none⟩) 5 ca0] ky (fun w130 h131 => Known_E (hTc.keep h131.old.old) hok (by omega) (cell_below h131.old.old hvT) [txt 1, encB (mkB 1 1 ((txt 7)) ((txt 5)) 3 ((txt 6)) ((txt 9)) 0 ({ data := #[] })), txt 11, txt 0, txt 2] (m := 5) rfl hc0x (h131.get 0 rfl) sz1_F (by decide) hz) ?_
        rintro w130 h131 _ w132 ⟨kb126, rfl, hl127, hk128, hb129⟩
        have h133 := HA.addNew h131 hb129 hl127 hk128
        have h134 : HA (bs wT) [(kb126, 4, boc (knownF (tF 18) [txt 1, encB (mkB 1 1 ((txt 7)) ((txt 5)) 3 ((txt 6)) ((txt 9)) 0 ({ data := #[] })), txt 11, txt 0, txt 2])), (ga0, 9, cu0), (kb77, 4, boc (knownF (tF 18) [txt 1, encB (mkB 1 1 ((txt 7)) ((txt 5)) 3 ((txt 6)) ((txt 9)) 0 ({ data := #[] })), txt 11])), (q52, 3, c53)] w132 := h133
        refine ⟨_, rfl, _, .inl ky, h134, ?_⟩
        refine wx_val (i := 5) (iN .i64 17) rfl rfl ky ky (fun w' h' => run_load1 (fun w => Tryz.isAgg3 w) ky (((h'.get 3 rfl).cell 0).trans hc57)) ?_
        refine wx_pure (i := 6) (.pointer (some ⟨kb126, 17, none⟩)) rfl rfl ky ky (fun _ => (run_addr_slice (q := kb126) (n := es.length) (m := es.length) (a := 17) Tryz.underlying87 (fun w => Tryz.sizeOf4 w) ky ky (by omega))) ?_
        refine wx_val (i := 7) (.bool false) rfl rfl ky ky (fun w' h' => run_load1 (fun w => Tryz.isAgg4 w) ky (((h'.get 0 rfl).cell 17).trans (boc_at kn1_F))) ?_
        refine wx_end fun w135 hbx _ => ?_
        have h136 := HA.keep _ _ h134 hbx
        exact ⟨kb126, by kernel_rfl, h136⟩
      · refine ex_doT rfl ky h113 fun w137 h138 => ⟨iN .i64 17, w137, run_load1 (fun w => Tryz.isAgg3 w) ky (((h138.get 2 rfl).cell 0).trans hc57), ?_⟩
        refine ⟨_, .inl ky, h138, ?_⟩
        refine wx_one 2 ky ?_
        refine ex_callx rfl ky h138 enter37 #[.pointer (some ⟨tc.q, 0, none⟩), .slice (some ⟨ga0, 0, none⟩) 5 ca0] ky (fun w147 h148 => Known_E (hTc.keep h148.old.old) hok (by omega) (cell_below h148.old.old hvT) [txt 1, encB (mkB 1 1 ((txt 7)) ((txt 5)) 3 ((txt 6)) ((txt 9)) 0 ({ data := #[] })), txt 11, txt 0, txt 2] (m := 5) rfl hc0x (h148.get 0 rfl) sz1_F (by decide) hz) ?_
        rintro w147 h148 _ w149 ⟨kb143, rfl, hl144, hk145, hb146⟩
        have h150 := HA.addNew h148 hb146 hl144 hk145
        have h151 : HA (bs wT) [(kb143, 4, boc (knownF (tF 18) [txt 1, encB (mkB 1 1 ((txt 7)) ((txt 5)) 3 ((txt 6)) ((txt 9)) 0 ({ data := #[] })), txt 11, txt 0, txt 2])), (ga0, 9, cu0), (kb77, 4, boc (knownF (tF 18) [txt 1, encB (mkB 1 1 ((txt 7)) ((txt 5)) 3 ((txt 6)) ((txt 9)) 0 ({ data := #[] })), txt 11])), (q52, 3, c53)] w149 := h150
        refine ⟨_, rfl, _, .inl ky, h151, ?_⟩
        refine wx_pure (i := 6) (.pointer (some ⟨kb143, 17, none⟩)) rfl rfl ky ky (fun _ => (run_addr_slice (q := kb143) (n := es.length) (m := es.length) (a := 17) Tryz.underlying87 (fun w => Tryz.sizeOf4 w) ky ky (by omega))) ?_
        refine wx_val (i := 7) (.bool false) rfl rfl ky ky (fun w' h' => run_load1 (fun w => Tryz.isAgg4 w) ky (((h'.get 0 rfl).cell 17).trans (boc_at kn1_F))) ?_
        refine wx_end fun w152 hbx _ => ?_
        have h153 := HA.keep _ _ h151 hbx
        exact ⟨kb143, by kernel_rfl, h153⟩
    · rintro _ w154 ⟨kb126, rfl, h155⟩
      refine then_at rfl ?_
      refine wp_cond_false ky ?_
      refine wp_skip (then_at rfl (wp_seq (wl_region ?_)))
      refine zv (.slice (some ⟨ga0, 0, none⟩) 5 ca0) ?_
      refine zv (.pointer (some ⟨q36, 1, none⟩)) ?_
      refine zu (.string ((txt 3))) (run_load1 (fun w => Tryz.isAgg9 w) ky (((hb4.keep h155.old.old).cell 1).trans rfl)) ?_
      refine wl_mks (n := 1) (m := 1) (c := #[.string ((txt 3))]) h155 9 ky ky ?_
      intro q156 w157 (h158 : HA (bs wT) [(q156, 9, #[.string ((txt 3))]), (kb126, 4, boc (knownF (tF 18) [txt 1, encB (mkB 1 1 ((txt 7)) ((txt 5)) 3 ((txt 6)) ((txt 9)) 0 ({ data := #[] })), txt 11, txt 0, txt 2])), (ga0, 9, cu0), (kb77, 4, boc (knownF (tF 18) [txt 1, encB (mkB 1 1 ((txt 7)) ((txt 5)) 3 ((txt 6)) ((txt 9)) 0 ({ data := #[] })), txt 11])), (q52, 3, c53)] w157)
      refine wl_append (m := 1) (c := 1) (Lr := [(ga0, 9, cu0)]) hRb0 (HA.perm h158 (List.Perm.cons _ (List.Perm.swap _ _ _))) (by decide) _ 16 Tryz.underlying86 infos9 rfl (by decide) ky ky ky rfl ky (by unfold maxLen; omega) (by omega) (by decide) ?_
      intro va1 w159 La1 hRa1 h160
      have hRb1 : Row 9 1 va1 6 (([txt 1, encB (mkB 1 1 ((txt 7)) ((txt 5)) 3 ((txt 6)) ((txt 9)) 0 ({ data := #[] })), txt 11, txt 0, txt 2, txt 3] : List ByteArray).map Value.string) La1 := hRa1
      obtain ⟨ga1, ca1, cu1, rfl, rfl, hc1x⟩ := hRb1.texts (by decide)
      have h161 : HA (bs wT) [(ga1, 9, cu1), (kb126, 4, boc (knownF (tF 18) [txt 1, encB (mkB 1 1 ((txt 7)) ((txt 5)) 3 ((txt 6)) ((txt 9)) 0 ({ data := #[] })), txt 11, txt 0, txt 2])), (kb77, 4, boc (knownF (tF 18) [txt 1, encB (mkB 1 1 ((txt 7)) ((txt 5)) 3 ((txt 6)) ((txt 9)) 0 ({ data := #[] })), txt 11])), (q52, 3, c53)] w159 := h160
      refine zv (.slice (some ⟨ga1, 0, none⟩) 6 ca1) ?_
      refine wl_nil (then_at rfl (wp_seq (wp_seq ?_)))
      refine wp_region_wx (HA (bs wT) [(ga1, 9, cu1), (kb126, 4, boc (knownF (tF 18) [txt 1, encB (mkB 1 1 ((txt 7)) ((txt 5)) 3 ((txt 6)) ((txt 9)) 0 ({ data := #[] })), txt 11, txt 0, txt 2])), (kb77, 4, boc (knownF (tF 18) [txt 1, encB (mkB 1 1 ((txt 7)) ((txt 5)) 3 ((txt 6)) ((txt 9)) 0 ({ data := #[] })), txt 11])), (q52, 3, c53)]) (fun AQ w' => ∃ (kb179 : Nat), AQ = ⟨(.bool false :: un :: .bool false :: pt p3.q :: iN .i64 0 :: .string ((txt 0)) :: .string ((txt 1)) :: iN .i64 0 :: pt q36 :: .bool true :: .string ((txt 17)) :: .string ((txt 11)) :: iN .i64 0 :: .string ((encB (mkB 1 1 ((txt 7)) ((txt 5)) 3 ((txt 6)) ((txt 9)) 0 ({ data := #[] })))) :: iN .i64 0 :: pt tc.q :: .slice (some ⟨q52, 0, none⟩) 1 c54 :: .slice (some ⟨ga1, 0, none⟩) 6 ca1 :: .bool true :: .bool false :: .tuple #[pt p3.q, iN .i64 0] :: .tuple #[pt p3.q, iN .i64 0] :: pt p3.q :: iN .i64 0 :: pt p3.q :: .string ((txt 0)) :: .tuple #[.string ((txt 1)), iN .i64 0] :: pt p3.q :: .string ((txt 0)) :: .tuple #[.string ((txt 1)), iN .i64 0] :: .string ((txt 1)) :: iN .i64 0 :: .tuple #[.agg (dvC ((txt 2)) ((txt 3)) ({ data := #[] }) ((txt 5)) (mkB 1 1 ((txt 7)) ((txt 5)) 3 ((txt 6)) ((txt 9)) 0 ({ data := #[] }))), .bool true] :: pt p3.q :: .agg #[.string ({ data := #[] }), .string ({ data := #[] }), .string ({ data := #[] }), .string ({ data := #[] })] :: .bool false :: .tuple #[.agg (dvC ((txt 2)) ((txt 3)) ({ data := #[] }) ((txt 5)) (mkB 1 1 ((txt 7)) ((txt 5)) 3 ((txt 6)) ((txt 9)) 0 ({ data := #[] }))), .bool true] :: .agg (dvC ((txt 2)) ((txt 3)) ({ data := #[] }) ((txt 5)) (mkB 1 1 ((txt 7)) ((txt 5)) 3 ((txt 6)) ((txt 9)) 0 ({ data := #[] }))) :: .bool true :: .tuple #[.string ((txt 17)), .string ((txt 11)), iN .i64 0] :: pt p3.q :: .string ((txt 0)) :: .pointer (some ⟨q36, 4, none⟩) :: .agg (buC (mkB 1 1 ((txt 7)) ((txt 5)) 3 ((txt 6)) ((txt 9)) 0 ({ data := #[] }))) :: .tuple #[.string ((txt 17)), .string ((txt 11)), iN .i64 0] :: .string ((txt 17)) :: .string ((txt 11)) :: iN .i64 0 :: .tuple #[.string ((encB (mkB 1 1 ((txt 7)) ((txt 5)) 3 ((txt 6)) ((txt 9)) 0 ({ data := #[] })))), iN .i64 0] :: .pointer (some ⟨q36, 4, none⟩) :: .agg (buC (mkB 1 1 ((txt 7)) ((txt 5)) 3 ((txt 6)) ((txt 9)) 0 ({ data := #[] }))) :: .tuple #[.string ((encB (mkB 1 1 ((txt 7)) ((txt 5)) 3 ((txt 6)) ((txt 9)) 0 ({ data := #[] })))), iN .i64 0] :: .string ((encB (mkB 1 1 ((txt 7)) ((txt 5)) 3 ((txt 6)) ((txt 9)) 0 ({ data := #[] })))) :: iN .i64 0 :: pt p3.q :: pt tc.q :: pt tc.q :: .string ((txt 17)) :: .slice (some ⟨q52, 0, none⟩) 1 c54 :: .bool true :: .bool false :: .bool false :: iN .i64 0 :: .bool false :: .bool false :: .bool false :: iN .i64 0 :: .bool false :: .bool false :: .bool false :: .slice (some ⟨q52, 0, none⟩) 1 c54 :: iN .i64 1 :: .bool false :: .bool false :: .string ((txt 1)) :: .string ((encB (mkB 1 1 ((txt 7)) ((txt 5)) 3 ((txt 6)) ((txt 9)) 0 ({ data := #[] })))) :: .string ((txt 11)) :: .slice (some ⟨q61, 0, none⟩) 3 3 :: pt tc.q :: .slice (some ⟨q61, 0, none⟩) 3 3 :: .slice (some ⟨kb77, 0, none⟩) es.length es.length :: .slice (some ⟨q52, 0, none⟩) 1 c54 :: pt q52 :: iN .i64 17 :: .pointer (some ⟨kb77, 17, none⟩) :: .bool false :: .slice (some ⟨q61, 0, none⟩) 3 3 :: .string ((txt 0)) :: pt q36 :: .string ((txt 2)) :: .slice (some ⟨q107, 0, none⟩) 2 2 :: .slice (some ⟨ga0, 0, none⟩) 5 ca0 :: pt tc.q :: .slice (some ⟨ga0, 0, none⟩) 5 ca0 :: .slice (some ⟨kb126, 0, none⟩) es.length es.length :: .slice (some ⟨q52, 0, none⟩) 1 c54 :: pt q52 :: iN .i64 17 :: .pointer (some ⟨kb126, 17, none⟩) :: .bool false :: .slice (some ⟨ga0, 0, none⟩) 5 ca0 :: .pointer (some ⟨q36, 1, none⟩) :: .string ((txt 3)) :: .slice (some ⟨q156, 0, none⟩) 1 1 :: .slice (some ⟨ga1, 0, none⟩) 6 ca1 :: pt tc.q :: .slice (some ⟨ga1, 0, none⟩) 6 ca1 :: .slice (some ⟨kb179, 0, none⟩) es.length es.length :: .slice (some ⟨q52, 0, none⟩) 1 c54 :: pt q52 :: iN .i64 17 :: .pointer (some ⟨kb179, 17, none⟩) :: .bool true :: .bool false :: .bool false :: List.replicate 13 un).toArray, []⟩ ∧ HA (bs wT) [(kb179, 4, boc (knownF (tF 18) [txt 1, encB (mkB 1 1 ((txt 7)) ((txt 5)) 3 ((txt 6)) ((txt 9)) 0 ({ data := #[] })), txt 11, txt 0, txt 2, txt 3])), (ga1, 9, cu1), (kb126, 4, boc (knownF (tF 18) [txt 1, encB (mkB 1 1 ((txt 7)) ((txt 5)) 3 ((txt 6)) ((txt 9)) 0 ({ data := #[] })), txt 11, txt 0, txt 2])), (kb77, 4, boc (knownF (tF 18) [txt 1, encB (mkB 1 1 ((txt 7)) ((txt 5)) 3 ((txt 6)) ((txt 9)) 0 ({ data := #[] })), txt 11])), (q52, 3, c53)] w') 10 ky ky ky ky ky (h161.drew) ?_ ?_
      · have h162 := h161.drew
        refine zp 0 (.pointer (some ⟨tc.q, 0, none⟩)) ?_
        refine zp 1 (.slice (some ⟨ga1, 0, none⟩) 6 ca1) ?_
        refine zp 3 (.slice (some ⟨q52, 0, none⟩) 1 c54) ?_
        refine wx_pure (i := 4) (.pointer (some ⟨q52, 0, none⟩)) rfl rfl ky ky (fun _ => (run_addr_slice (q := q52) (n := 1) (m := c54) (a := 0) Tryz.underlying84 (fun w => Tryz.sizeOf3 w) ky ky (by decide))) ?_
        refine zp 8 (.bool false) ?_
        refine wx_two 2 5 ky ?_ ?_
        · refine ex_callx rfl ky h162 enter37 #[.pointer (some ⟨tc.q, 0, none⟩), .slice (some ⟨ga1, 0, none⟩) 6 ca1] ky (fun w183 h184 => Known_E (hTc.keep h184.old.old) hok (by omega) (cell_below h184.old.old hvT) [txt 1, encB (mkB 1 1 ((txt 7)) ((txt 5)) 3 ((txt 6)) ((txt 9)) 0 ({ data := #[] })), txt 11, txt 0, txt 2, txt 3] (m := 6) rfl hc1x (h184.get 0 rfl) sz2_F (by decide) hz) ?_
          rintro w183 h184 _ w185 ⟨kb179, rfl, hl180, hk181, hb182⟩
          have h186 := HA.addNew h184 hb182 hl180 hk181
          have h187 : HA (bs wT) [(kb179, 4, boc (knownF (tF 18) [txt 1, encB (mkB 1 1 ((txt 7)) ((txt 5)) 3 ((txt 6)) ((txt 9)) 0 ({ data := #[] })), txt 11, txt 0, txt 2, txt 3])), (ga1, 9, cu1), (kb126, 4, boc (knownF (tF 18) [txt 1, encB (mkB 1 1 ((txt 7)) ((txt 5)) 3 ((txt 6)) ((txt 9)) 0 ({ data := #[] })), txt 11, txt 0, txt 2])), (kb77, 4, boc (knownF (tF 18) [txt 1, encB (mkB 1 1 ((txt 7)) ((txt 5)) 3 ((txt 6)) ((txt 9)) 0 ({ data := #[] })), txt 11])), (q52, 3, c53)] w185 := h186
          refine ⟨_, rfl, _, .inl ky, h187, ?_⟩
          refine wx_val (i := 5) (iN .i64 17) rfl rfl ky ky (fun w' h' => run_load1 (fun w => Tryz.isAgg3 w) ky (((h'.get 4 rfl).cell 0).trans hc57)) ?_
          refine wx_pure (i := 6) (.pointer (some ⟨kb179, 17, none⟩)) rfl rfl ky ky (fun _ => (run_addr_slice (q := kb179) (n := es.length) (m := es.length) (a := 17) Tryz.underlying87 (fun w => Tryz.sizeOf4 w) ky ky (by omega))) ?_
          refine wx_val (i := 7) (.bool true) rfl rfl ky ky (fun w' h' => run_load1 (fun w => Tryz.isAgg4 w) ky (((h'.get 0 rfl).cell 17).trans (boc_at2 kn2_F))) ?_
          refine zp 9 (.bool false) ?_
          refine wx_end fun w188 hbx _ => ?_
          have h189 := HA.keep _ _ h187 hbx
          exact ⟨kb179, by kernel_rfl, h189⟩
        · refine ex_doT rfl ky h162 fun w190 h191 => ⟨iN .i64 17, w190, run_load1 (fun w => Tryz.isAgg3 w) ky (((h191.get 3 rfl).cell 0).trans hc57), ?_⟩
          refine ⟨_, .inl ky, h191, ?_⟩
          refine wx_one 2 ky ?_
          refine ex_callx rfl ky h191 enter37 #[.pointer (some ⟨tc.q, 0, none⟩), .slice (some ⟨ga1, 0, none⟩) 6 ca1] ky (fun w200 h201 => Known_E (hTc.keep h201.old.old) hok (by omega) (cell_below h201.old.old hvT) [txt 1, encB (mkB 1 1 ((txt 7)) ((txt 5)) 3 ((txt 6)) ((txt 9)) 0 ({ data := #[] })), txt 11, txt 0, txt 2, txt 3] (m := 6) rfl hc1x (h201.get 0 rfl) sz2_F (by decide) hz) ?_
          rintro w200 h201 _ w202 ⟨kb196, rfl, hl197, hk198, hb199⟩
          have h203 := HA.addNew h201 hb199 hl197 hk198
          have h204 : HA (bs wT) [(kb196, 4, boc (knownF (tF 18) [txt 1, encB (mkB 1 1 ((txt 7)) ((txt 5)) 3 ((txt 6)) ((txt 9)) 0 ({ data := #[] })), txt 11, txt 0, txt 2, txt 3])), (ga1, 9, cu1), (kb126, 4, boc (knownF (tF 18) [txt 1, encB (mkB 1 1 ((txt 7)) ((txt 5)) 3 ((txt 6)) ((txt 9)) 0 ({ data := #[] })), txt 11, txt 0, txt 2])), (kb77, 4, boc (knownF (tF 18) [txt 1, encB (mkB 1 1 ((txt 7)) ((txt 5)) 3 ((txt 6)) ((txt 9)) 0 ({ data := #[] })), txt 11])), (q52, 3, c53)] w202 := h203
          refine ⟨_, rfl, _, .inl ky, h204, ?_⟩
          refine wx_pure (i := 6) (.pointer (some ⟨kb196, 17, none⟩)) rfl rfl ky ky (fun _ => (run_addr_slice (q := kb196) (n := es.length) (m := es.length) (a := 17) Tryz.underlying87 (fun w => Tryz.sizeOf4 w) ky ky (by omega))) ?_
          refine wx_val (i := 7) (.bool true) rfl rfl ky ky (fun w' h' => run_load1 (fun w => Tryz.isAgg4 w) ky (((h'.get 0 rfl).cell 17).trans (boc_at2 kn2_F))) ?_
          refine zp 9 (.bool false) ?_
          refine wx_end fun w205 hbx _ => ?_
          have h206 := HA.keep _ _ h204 hbx
          exact ⟨kb196, by kernel_rfl, h206⟩
      · rintro _ w207 ⟨kb179, rfl, h208⟩
        refine then_at rfl ?_
        refine wp_cond_false ky ?_
        refine wp_skip (then_at rfl (wp_seq (wl_region ?_)))
        refine zv (.slice (some ⟨ga1, 0, none⟩) 6 ca1) ?_
        refine zv (.pointer (some ⟨q36, 2, none⟩)) ?_
        refine zu (.string ({ data := #[] })) (run_load1 (fun w => Tryz.isAgg9 w) ky (((hb4.keep h208.old.old).cell 2).trans rfl)) ?_
        refine wl_mks (n := 1) (m := 1) (c := #[.string ({ data := #[] })]) h208 9 ky ky ?_
        intro q209 w210 (h211 : HA (bs wT) [(q209, 9, #[.string ({ data := #[] })]), (kb179, 4, boc (knownF (tF 18) [txt 1, encB (mkB 1 1 ((txt 7)) ((txt 5)) 3 ((txt 6)) ((txt 9)) 0 ({ data := #[] })), txt 11, txt 0, txt 2, txt 3])), (ga1, 9, cu1), (kb126, 4, boc (knownF (tF 18) [txt 1, encB (mkB 1 1 ((txt 7)) ((txt 5)) 3 ((txt 6)) ((txt 9)) 0 ({ data := #[] })), txt 11, txt 0, txt 2])), (kb77, 4, boc (knownF (tF 18) [txt 1, encB (mkB 1 1 ((txt 7)) ((txt 5)) 3 ((txt 6)) ((txt 9)) 0 ({ data := #[] })), txt 11])), (q52, 3, c53)] w210)
        refine wl_append (m := 1) (c := 1) (Lr := [(ga1, 9, cu1)]) hRb1 (HA.perm h211 (List.Perm.cons _ (List.Perm.swap _ _ _))) (by decide) _ 16 Tryz.underlying86 infos9 rfl (by decide) ky ky ky rfl ky (by unfold maxLen; omega) (by omega) (by decide) ?_
        intro va2 w212 La2 hRa2 h213
        have hRb2 : Row 9 1 va2 7 (([txt 1, encB (mkB 1 1 ((txt 7)) ((txt 5)) 3 ((txt 6)) ((txt 9)) 0 ({ data := #[] })), txt 11, txt 0, txt 2, txt 3, { data := #[] }] : List ByteArray).map Value.string) La2 := hRa2
        obtain ⟨ga2, ca2, cu2, rfl, rfl, hc2x⟩ := hRb2.texts (by decide)
        have h214 : HA (bs wT) [(ga2, 9, cu2), (kb179, 4, boc (knownF (tF 18) [txt 1, encB (mkB 1 1 ((txt 7)) ((txt 5)) 3 ((txt 6)) ((txt 9)) 0 ({ data := #[] })), txt 11, txt 0, txt 2, txt 3])), (kb126, 4, boc (knownF (tF 18) [txt 1, encB (mkB 1 1 ((txt 7)) ((txt 5)) 3 ((txt 6)) ((txt 9)) 0 ({ data := #[] })), txt 11, txt 0, txt 2])), (kb77, 4, boc (knownF (tF 18) [txt 1, encB (mkB 1 1 ((txt 7)) ((txt 5)) 3 ((txt 6)) ((txt 9)) 0 ({ data := #[] })), txt 11])), (q52, 3, c53)] w212 := h213
        refine zv (.slice (some ⟨ga2, 0, none⟩) 7 ca2) ?_
        refine wl_nil (then_at rfl (wp_seq ?_))
        refine wp_region_wx (HA (bs wT) [(ga2, 9, cu2), (kb179, 4, boc (knownF (tF 18) [txt 1, encB (mkB 1 1 ((txt 7)) ((txt 5)) 3 ((txt 6)) ((txt 9)) 0 ({ data := #[] })), txt 11, txt 0, txt 2, txt 3])), (kb126, 4, boc (knownF (tF 18) [txt 1, encB (mkB 1 1 ((txt 7)) ((txt 5)) 3 ((txt 6)) ((txt 9)) 0 ({ data := #[] })), txt 11, txt 0, txt 2])), (kb77, 4, boc (knownF (tF 18) [txt 1, encB (mkB 1 1 ((txt 7)) ((txt 5)) 3 ((txt 6)) ((txt 9)) 0 ({ data := #[] })), txt 11])), (q52, 3, c53)]) (fun AQ w' => ∃ (kb228 : Nat), AQ = ⟨(.bool false :: un :: .bool true :: pt p3.q :: iN .i64 0 :: .string ((txt 0)) :: .string ((txt 1)) :: iN .i64 0 :: pt q36 :: .bool true :: .string ((txt 17)) :: .string ((txt 11)) :: iN .i64 0 :: .string ((encB (mkB 1 1 ((txt 7)) ((txt 5)) 3 ((txt 6)) ((txt 9)) 0 ({ data := #[] })))) :: iN .i64 0 :: pt tc.q :: .slice (some ⟨q52, 0, none⟩) 1 c54 :: .slice (some ⟨ga2, 0, none⟩) 7 ca2 :: .bool true :: .bool false :: .tuple #[pt p3.q, iN .i64 0] :: .tuple #[pt p3.q, iN .i64 0] :: pt p3.q :: iN .i64 0 :: pt p3.q :: .string ((txt 0)) :: .tuple #[.string ((txt 1)), iN .i64 0] :: pt p3.q :: .string ((txt 0)) :: .tuple #[.string ((txt 1)), iN .i64 0] :: .string ((txt 1)) :: iN .i64 0 :: .tuple #[.agg (dvC ((txt 2)) ((txt 3)) ({ data := #[] }) ((txt 5)) (mkB 1 1 ((txt 7)) ((txt 5)) 3 ((txt 6)) ((txt 9)) 0 ({ data := #[] }))), .bool true] :: pt p3.q :: .agg #[.string ({ data := #[] }), .string ({ data := #[] }), .string ({ data := #[] }), .string ({ data := #[] })] :: .bool false :: .tuple #[.agg (dvC ((txt 2)) ((txt 3)) ({ data := #[] }) ((txt 5)) (mkB 1 1 ((txt 7)) ((txt 5)) 3 ((txt 6)) ((txt 9)) 0 ({ data := #[] }))), .bool true] :: .agg (dvC ((txt 2)) ((txt 3)) ({ data := #[] }) ((txt 5)) (mkB 1 1 ((txt 7)) ((txt 5)) 3 ((txt 6)) ((txt 9)) 0 ({ data := #[] }))) :: .bool true :: .tuple #[.string ((txt 17)), .string ((txt 11)), iN .i64 0] :: pt p3.q :: .string ((txt 0)) :: .pointer (some ⟨q36, 4, none⟩) :: .agg (buC (mkB 1 1 ((txt 7)) ((txt 5)) 3 ((txt 6)) ((txt 9)) 0 ({ data := #[] }))) :: .tuple #[.string ((txt 17)), .string ((txt 11)), iN .i64 0] :: .string ((txt 17)) :: .string ((txt 11)) :: iN .i64 0 :: .tuple #[.string ((encB (mkB 1 1 ((txt 7)) ((txt 5)) 3 ((txt 6)) ((txt 9)) 0 ({ data := #[] })))), iN .i64 0] :: .pointer (some ⟨q36, 4, none⟩) :: .agg (buC (mkB 1 1 ((txt 7)) ((txt 5)) 3 ((txt 6)) ((txt 9)) 0 ({ data := #[] }))) :: .tuple #[.string ((encB (mkB 1 1 ((txt 7)) ((txt 5)) 3 ((txt 6)) ((txt 9)) 0 ({ data := #[] })))), iN .i64 0] :: .string ((encB (mkB 1 1 ((txt 7)) ((txt 5)) 3 ((txt 6)) ((txt 9)) 0 ({ data := #[] })))) :: iN .i64 0 :: pt p3.q :: pt tc.q :: pt tc.q :: .string ((txt 17)) :: .slice (some ⟨q52, 0, none⟩) 1 c54 :: .bool true :: .bool false :: .bool false :: iN .i64 0 :: .bool false :: .bool false :: .bool false :: iN .i64 0 :: .bool false :: .bool false :: .bool false :: .slice (some ⟨q52, 0, none⟩) 1 c54 :: iN .i64 1 :: .bool false :: .bool false :: .string ((txt 1)) :: .string ((encB (mkB 1 1 ((txt 7)) ((txt 5)) 3 ((txt 6)) ((txt 9)) 0 ({ data := #[] })))) :: .string ((txt 11)) :: .slice (some ⟨q61, 0, none⟩) 3 3 :: pt tc.q :: .slice (some ⟨q61, 0, none⟩) 3 3 :: .slice (some ⟨kb77, 0, none⟩) es.length es.length :: .slice (some ⟨q52, 0, none⟩) 1 c54 :: pt q52 :: iN .i64 17 :: .pointer (some ⟨kb77, 17, none⟩) :: .bool false :: .slice (some ⟨q61, 0, none⟩) 3 3 :: .string ((txt 0)) :: pt q36 :: .string ((txt 2)) :: .slice (some ⟨q107, 0, none⟩) 2 2 :: .slice (some ⟨ga0, 0, none⟩) 5 ca0 :: pt tc.q :: .slice (some ⟨ga0, 0, none⟩) 5 ca0 :: .slice (some ⟨kb126, 0, none⟩) es.length es.length :: .slice (some ⟨q52, 0, none⟩) 1 c54 :: pt q52 :: iN .i64 17 :: .pointer (some ⟨kb126, 17, none⟩) :: .bool false :: .slice (some ⟨ga0, 0, none⟩) 5 ca0 :: .pointer (some ⟨q36, 1, none⟩) :: .string ((txt 3)) :: .slice (some ⟨q156, 0, none⟩) 1 1 :: .slice (some ⟨ga1, 0, none⟩) 6 ca1 :: pt tc.q :: .slice (some ⟨ga1, 0, none⟩) 6 ca1 :: .slice (some ⟨kb179, 0, none⟩) es.length es.length :: .slice (some ⟨q52, 0, none⟩) 1 c54 :: pt q52 :: iN .i64 17 :: .pointer (some ⟨kb179, 17, none⟩) :: .bool true :: .bool false :: .bool false :: .slice (some ⟨ga1, 0, none⟩) 6 ca1 :: .pointer (some ⟨q36, 2, none⟩) :: .string ({ data := #[] }) :: .slice (some ⟨q209, 0, none⟩) 1 1 :: .slice (some ⟨ga2, 0, none⟩) 7 ca2 :: pt tc.q :: .slice (some ⟨ga2, 0, none⟩) 7 ca2 :: .slice (some ⟨kb228, 0, none⟩) es.length es.length :: .slice (some ⟨q52, 0, none⟩) 1 c54 :: pt q52 :: iN .i64 17 :: .pointer (some ⟨kb228, 17, none⟩) :: .bool true :: List.replicate 0 un).toArray, []⟩ ∧ HA (bs wT) [(kb228, 4, boc (knownF (tF 18) [txt 1, encB (mkB 1 1 ((txt 7)) ((txt 5)) 3 ((txt 6)) ((txt 9)) 0 ({ data := #[] })), txt 11, txt 0, txt 2, txt 3, { data := #[] }])), (ga2, 9, cu2), (kb179, 4, boc (knownF (tF 18) [txt 1, encB (mkB 1 1 ((txt 7)) ((txt 5)) 3 ((txt 6)) ((txt 9)) 0 ({ data := #[] })), txt 11, txt 0, txt 2, txt 3])), (kb126, 4, boc (knownF (tF 18) [txt 1, encB (mkB 1 1 ((txt 7)) ((txt 5)) 3 ((txt 6)) ((txt 9)) 0 ({ data := #[] })), txt 11, txt 0, txt 2])), (kb77, 4, boc (knownF (tF 18) [txt 1, encB (mkB 1 1 ((txt 7)) ((txt 5)) 3 ((txt 6)) ((txt 9)) 0 ({ data := #[] })), txt 11])), (q52, 3, c53)] w') 9 ky ky ky ky ky (h214.drew) ?_ ?_
        · have h215 := h214.drew
          refine zp 0 (.pointer (some ⟨tc.q, 0, none⟩)) ?_
          refine zp 1 (.slice (some ⟨ga2, 0, none⟩) 7 ca2) ?_
          refine zp 3 (.slice (some ⟨q52, 0, none⟩) 1 c54) ?_
          refine wx_pure (i := 4) (.pointer (some ⟨q52, 0, none⟩)) rfl rfl ky ky (fun _ => (run_addr_slice (q := q52) (n := 1) (m := c54) (a := 0) Tryz.underlying84 (fun w => Tryz.sizeOf3 w) ky ky (by decide))) ?_
          refine wx_two 2 5 ky ?_ ?_
          · refine ex_callx rfl ky h215 enter37 #[.pointer (some ⟨tc.q, 0, none⟩), .slice (some ⟨ga2, 0, none⟩) 7 ca2] ky (fun w232 h233 => Known_E (hTc.keep h233.old.old) hok (by omega) (cell_below h233.old.old hvT) [txt 1, encB (mkB 1 1 ((txt 7)) ((txt 5)) 3 ((txt 6)) ((txt 9)) 0 ({ data := #[] })), txt 11, txt 0, txt 2, txt 3, { data := #[] }] (m := 7) rfl hc2x (h233.get 0 rfl) sz3_F (by decide) hz) ?_
            rintro w232 h233 _ w234 ⟨kb228, rfl, hl229, hk230, hb231⟩
            have h235 := HA.addNew h233 hb231 hl229 hk230
            have h236 : HA (bs wT) [(kb228, 4, boc (knownF (tF 18) [txt 1, encB (mkB 1 1 ((txt 7)) ((txt 5)) 3 ((txt 6)) ((txt 9)) 0 ({ data := #[] })), txt 11, txt 0, txt 2, txt 3, { data := #[] }])), (ga2, 9, cu2), (kb179, 4, boc (knownF (tF 18) [txt 1, encB (mkB 1 1 ((txt 7)) ((txt 5)) 3 ((txt 6)) ((txt 9)) 0 ({ data := #[] })), txt 11, txt 0, txt 2, txt 3])), (kb126, 4, boc (knownF (tF 18) [txt 1, encB (mkB 1 1 ((txt 7)) ((txt 5)) 3 ((txt 6)) ((txt 9)) 0 ({ data := #[] })), txt 11, txt 0, txt 2])), (kb77, 4, boc (knownF (tF 18) [txt 1, encB (mkB 1 1 ((txt 7)) ((txt 5)) 3 ((txt 6)) ((txt 9)) 0 ({ data := #[] })), txt 11])), (q52, 3, c53)] w234 := h235
            refine ⟨_, rfl, _, .inl ky, h236, ?_⟩
            refine wx_val (i := 5) (iN .i64 17) rfl rfl ky ky (fun w' h' => run_load1 (fun w => Tryz.isAgg3 w) ky (((h'.get 5 rfl).cell 0).trans hc57)) ?_
            refine wx_pure (i := 6) (.pointer (some ⟨kb228, 17, none⟩)) rfl rfl ky ky (fun _ => (run_addr_slice (q := kb228) (n := es.length) (m := es.length) (a := 17) Tryz.underlying87 (fun w => Tryz.sizeOf4 w) ky ky (by omega))) ?_
            refine wx_val (i := 7) (.bool true) rfl rfl ky ky (fun w' h' => run_load1 (fun w => Tryz.isAgg4 w) ky (((h'.get 0 rfl).cell 17).trans (boc_at2 kn3_F))) ?_
            refine zp 8 (.bool true) ?_
            refine wx_end fun w237 hbx _ => ?_
            have h238 := HA.keep _ _ h236 hbx
            exact ⟨kb228, by kernel_rfl, h238⟩
          · refine ex_doT rfl ky h215 fun w239 h240 => ⟨iN .i64 17, w239, run_load1 (fun w => Tryz.isAgg3 w) ky (((h240.get 4 rfl).cell 0).trans hc57), ?_⟩
            refine ⟨_, .inl ky, h240, ?_⟩
            refine wx_one 2 ky ?_
            refine ex_callx rfl ky h240 enter37 #[.pointer (some ⟨tc.q, 0, none⟩), .slice (some ⟨ga2, 0, none⟩) 7 ca2] ky (fun w249 h250 => Known_E (hTc.keep h250.old.old) hok (by omega) (cell_below h250.old.old hvT) [txt 1, encB (mkB 1 1 ((txt 7)) ((txt 5)) 3 ((txt 6)) ((txt 9)) 0 ({ data := #[] })), txt 11, txt 0, txt 2, txt 3, { data := #[] }] (m := 7) rfl hc2x (h250.get 0 rfl) sz3_F (by decide) hz) ?_
            rintro w249 h250 _ w251 ⟨kb245, rfl, hl246, hk247, hb248⟩
            have h252 := HA.addNew h250 hb248 hl246 hk247
            have h253 : HA (bs wT) [(kb245, 4, boc (knownF (tF 18) [txt 1, encB (mkB 1 1 ((txt 7)) ((txt 5)) 3 ((txt 6)) ((txt 9)) 0 ({ data := #[] })), txt 11, txt 0, txt 2, txt 3, { data := #[] }])), (ga2, 9, cu2), (kb179, 4, boc (knownF (tF 18) [txt 1, encB (mkB 1 1 ((txt 7)) ((txt 5)) 3 ((txt 6)) ((txt 9)) 0 ({ data := #[] })), txt 11, txt 0, txt 2, txt 3])), (kb126, 4, boc (knownF (tF 18) [txt 1, encB (mkB 1 1 ((txt 7)) ((txt 5)) 3 ((txt 6)) ((txt 9)) 0 ({ data := #[] })), txt 11, txt 0, txt 2])), (kb77, 4, boc (knownF (tF 18) [txt 1, encB (mkB 1 1 ((txt 7)) ((txt 5)) 3 ((txt 6)) ((txt 9)) 0 ({ data := #[] })), txt 11])), (q52, 3, c53)] w251 := h252
            refine ⟨_, rfl, _, .inl ky, h253, ?_⟩
            refine wx_pure (i := 6) (.pointer (some ⟨kb245, 17, none⟩)) rfl rfl ky ky (fun _ => (run_addr_slice (q := kb245) (n := es.length) (m := es.length) (a := 17) Tryz.underlying87 (fun w => Tryz.sizeOf4 w) ky ky (by omega))) ?_
            refine wx_val (i := 7) (.bool true) rfl rfl ky ky (fun w' h' => run_load1 (fun w => Tryz.isAgg4 w) ky (((h'.get 0 rfl).cell 17).trans (boc_at2 kn3_F))) ?_
            refine zp 8 (.bool true) ?_
            refine wx_end fun w254 hbx _ => ?_
            have h255 := HA.keep _ _ h253 hbx
            exact ⟨kb245, by kernel_rfl, h255⟩
        · rintro _ w256 ⟨kb228, rfl, h257⟩
          refine then_at rfl ?_
          refine wp_ret ?_
          repeat first | refine then_ret ?_ | refine block_ret ?_
          exact bodyPost_ret (v := .bool true) ky rfl ⟨rfl, belowT hbw h257.old.old⟩
theorem hiddenL {w : World} {m0 : Int} (hv : w.cell? ⟨0, 0, none⟩ = some (.int .i64 m0)) (b : Bool) :
    Calls Tryz.prog 6 #[.bool b] w fun e w' => e = .returned (.bool true) ∧ Below w.heap.size w w' := by
  cases b with
  | true => exact hidden_W hv
  | false => exact hidden_F hv
end Go.Proofs.YtoogiblkommdfaaGreat
