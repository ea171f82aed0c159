/-
  The tables of the runs; works.
-/
import Derived.Test.YtoogiblkommdfaaGreatX8
namespace Go.Proofs.YtoogiblkommdfaaGreat
open Go.RowKit

theorem txM (k : Nat) : (txt k).size ≤ 10000 := by rw [txt_size]; decide
def TW : List Ent := [.nm 0,
  .mk 3 0 { data := #[] } [0] 0,
  .nm 1,
  .nm 2,
  .nm 3,
  .mk 3 0 { data := #[] } [2] 0,
  .mk 3 0 { data := #[] } [3] 0,
  .mk 3 0 { data := #[] } [4] 0,
  .dt { data := #[112, 114, 101, 0, 0, 0, 3, 0, 0, 0, 8, 240, 84, 82, 77, 0, 0, 0, 6] },
  .mk 7 0 { data := #[] } [4, 8] 0,
  .nm 4,
  .mk 3 0 { data := #[] } [10] 0,
  .nm 5,
  .mk 3 0 { data := #[] } [12] 0,
  .mk 4 0 { data := #[] } [0, 3] 0,
  .mk 4 0 { data := #[] } [2, 12] 0,
  .mk 4 0 { data := #[] } [3, 12] 0,
  .mk 4 0 { data := #[] } [10, 12] 0,
  .dt { data := #[0, 0, 0, 8, 240, 84, 82, 77, 0, 0, 0, 14, 0, 0, 0, 8, 240, 84, 82, 77, 0, 0, 0, 15, 0, 0, 0, 8, 240, 84, 82, 77, 0, 0, 0, 16, 0, 0, 0, 8, 240, 84, 82, 77, 0, 0, 0, 17] },
  .dt { data := #[0, 0, 0, 8, 240, 84, 82, 77, 0, 0, 0, 1, 0, 0, 0, 8, 240, 84, 82, 77, 0, 0, 0, 5, 0, 0, 0, 8, 240, 84, 82, 77, 0, 0, 0, 13] },
  .mk 5 0 { data := #[120, 51, 100, 104, 0] } [18, 19] 0,
  .dt { data := #[0, 0, 0, 8, 240, 84, 82, 77, 0, 0, 0, 14, 0, 0, 0, 8, 240, 84, 82, 77, 0, 0, 0, 15, 0, 0, 0, 8, 240, 84, 82, 77, 0, 0, 0, 16] },
  .mk 5 0 { data := #[120, 51, 100, 104, 0] } [21, 19] 0]
def tW (k : Nat) : List Ent := TW.take k
theorem tW_lt (k : Nat) : (tW k).length < 50000 := Nat.lt_of_le_of_lt (List.length_take_le' _ _) (by decide)
theorem Wq0 : frA (tW 0) = (tW 1) := by kernel_rfl
theorem Wq1 : (tW 0).length = 0 := by kernel_rfl
theorem Wq2 : mkA (tW 1) 3 { data := #[] } [txt 0] = ((tW 2), 1) := by kernel_rfl
theorem Wq3 : frA (tW 2) = (tW 3) := by kernel_rfl
theorem Wq4 : (tW 2).length = 2 := by kernel_rfl
theorem Wq5 : frA (tW 3) = (tW 4) := by kernel_rfl
theorem Wq6 : (tW 3).length = 3 := by kernel_rfl
theorem Wq7 : frA (tW 4) = (tW 5) := by kernel_rfl
theorem Wq8 : (tW 4).length = 4 := by kernel_rfl
theorem Wq9 : mkA (tW 5) 3 { data := #[] } [txt 2] = ((tW 6), 5) := by kernel_rfl
theorem Wq10 : mkA (tW 6) 3 { data := #[] } [txt 3] = ((tW 7), 6) := by kernel_rfl
theorem Wq11 : mkA (tW 7) 3 { data := #[] } [txt 4] = ((tW 8), 7) := by kernel_rfl
theorem Wq12 : mkA (tW 8) 3 { data := #[] } [txt 4] = ((tW 8), 7) := by kernel_rfl
theorem Wq13 : mkA (tW 8) 7 { data := #[] } [txt 4, sg3 (txt 6)] = ((tW 10), 9) := by kernel_rfl
theorem Wq14 : frA (tW 10) = (tW 11) := by kernel_rfl
theorem Wq15 : (tW 10).length = 10 := by kernel_rfl
theorem Wq16 : mkA (tW 11) 3 { data := #[] } [txt 10] = ((tW 12), 11) := by kernel_rfl
theorem Wq17 : mayX (mkB 1 1 ((txt 7)) ((txt 5)) 3 ((txt 6)) ((txt 9)) 9 ((txt 11))) = true := by kernel_rfl
theorem Wq18 : decide ((mkB 1 1 ((txt 7)) ((txt 5)) 3 ((txt 6)) ((txt 9)) 9 ((txt 11))) = bare (mkB 1 1 ((txt 7)) ((txt 5)) 3 ((txt 6)) ((txt 9)) 9 ((txt 11)))) = false := by kernel_rfl
theorem Wq19 : vrfA (tW 12) (txt 7) (sgT (mkB 1 1 ((txt 7)) ((txt 5)) 3 ((txt 6)) ((txt 9)) 9 ((txt 11)))) (txt 9) = true := by kernel_rfl
theorem Wq20 : mkA (tW 12) 3 { data := #[] } [txt 0] = ((tW 12), 1) := by kernel_rfl
theorem Wq21 : mkA (frA (tW 12)) 3 { data := #[] } [txt (tW 12).length] = ((tW 14), 13) := by kernel_rfl
theorem Wq22 : mkA (tW 14) 4 { data := #[] } [txt 0, txt 6] = ((tW 15), 14) := by kernel_rfl
theorem Wq23 : mkA (tW 15) 4 { data := #[] } [txt (tW 12).length, txt 5] = ((tW 16), 15) := by kernel_rfl
theorem Wq24 : mkA (tW 16) 4 { data := #[] } [txt (tW 12).length, txt 6] = ((tW 17), 16) := by kernel_rfl
theorem Wq25 : mkA (tW 17) 4 { data := #[] } [txt (tW 12).length, txt 11] = ((tW 18), 17) := by kernel_rfl
theorem Wq26 : dv (tW 18) (layT (shr [14, 15, 16, 17] 4) 4) (layT [txt 1, txt 5, txt 13] 3) x3I 1 = ((tW 21), [txt 20]) := by kernel_rfl
theorem Wq27 : mkA (tW 21) 3 { data := #[] } [txt 2] = ((tW 21), 5) := by kernel_rfl
theorem Wq28 : mkA (tW 21) 4 { data := #[] } [txt 3, txt 1] = ((tW 21), 14) := by kernel_rfl
theorem Wq29 : mkA (tW 21) 4 { data := #[] } [txt 2, txt 13] = ((tW 21), 15) := by kernel_rfl
theorem Wq30 : mkA (tW 21) 4 { data := #[] } [txt 3, txt 13] = ((tW 21), 16) := by kernel_rfl
theorem Wq31 : mkA (tW 21) 4 { data := #[] } [txt 10, txt 13] = ((tW 21), 17) := by kernel_rfl
theorem Wq32 : dv (tW 21) (layT (shr [14, 15, 16, 17] 4) 4) (layT [txt 1, txt 5, txt 13] 3) x3I 1 = ((tW 21), [txt 20]) := by kernel_rfl
theorem Wq33 : mkA (tW 21) 3 { data := #[] } [txt 2] = ((tW 21), 5) := by kernel_rfl
theorem Wq34 : mkA (tW 21) 4 { data := #[] } [txt 3, txt 1] = ((tW 21), 14) := by kernel_rfl
theorem Wq35 : mkA (tW 21) 4 { data := #[] } [txt 2, txt 13] = ((tW 21), 15) := by kernel_rfl
theorem Wq36 : mkA (tW 21) 4 { data := #[] } [txt 3, txt 13] = ((tW 21), 16) := by kernel_rfl
theorem Wq37 : dv (tW 21) (layT (shr [14, 15, 16] 3) 3) (layT [txt 1, txt 5, txt 13] 3) x3I 1 = ((tW 23), [txt 22]) := by kernel_rfl
theorem Wq38 : vrfA (tW 23) (txt 7) (sgT (mkB 1 1 ((txt 7)) ((txt 5)) 3 ((txt 6)) ((txt 9)) 9 ((txt 11)))) (txt 9) = true := by kernel_rfl
theorem made_W {w0 w : World} {M : ML} {p : Pr} {n : Nat} {L : BL} (H : PH w0 M p (tW 2) n L w) (hj : n < 1000) :
    Calls Tryz.prog 34 #[pt p.q, .agg #[.string { data := #[] }, .string { data := #[] }, .string { data := #[] }, .string { data := #[] }], .bool true] w fun e w' => e = .returned (.tuple #[.agg (dvC ((txt 2)) ((txt 3)) ((txt 10)) ((txt 5)) (mkB 1 1 ((txt 7)) ((txt 5)) 3 ((txt 6)) ((txt 9)) 9 ((txt 11)))), .bool true]) ∧ PH w0 M p (tW 12) (n + 1) L w' :=
  made_t H Wq3 Wq4 Wq5 Wq6 Wq7 Wq8 Wq9 Wq10 Wq11 Wq12 Wq13 (tW_lt 2) (tW_lt 3) (tW_lt 4) (tW_lt 5) (tW_lt 6) (tW_lt 7) (tW_lt 8) hj Wq14 Wq15 Wq16 (tW_lt 10) (tW_lt 11)
theorem begin_W {w0 w : World} {M : ML} {p : Pr} {n : Nat} {L : BL} (H : PH w0 M p (tW 12) n L w) (hj : n < 1000) :
    Calls Tryz.prog 27 #[pt p.q, .string (txt 0), .agg (buC (mkB 1 1 ((txt 7)) ((txt 5)) 3 ((txt 6)) ((txt 9)) 9 ((txt 11)))), .string { data := #[] }] w fun e w' => e = .returned (.tuple #[.string (txt 20), .string (txt 13), iN .i64 0]) ∧ PH w0 M p (tW 21) (n + 1) L w' :=
  beg_4 H (txt 0) (mkB 1 1 ((txt 7)) ((txt 5)) 3 ((txt 6)) ((txt 9)) 9 ((txt 11))) { data := #[] } (txM _) Wq17 (mayX_iff Wq17) Wq18 Wq19 (by omega) (tW_lt 12) Wq20 (tW_lt 12) Wq21 [(tW 14), (tW 15), (tW 16), (tW 17), (tW 18)] [14, 15, 16, 17] rfl (by intro j hj; match j, hj with | 0, _ => exact tW_lt _ | 1, _ => exact tW_lt _ | 2, _ => exact tW_lt _ | 3, _ => exact tW_lt _ | 4, _ => exact tW_lt _) (by intro j hj; match j, hj with | 0, _ => exact Wq22 | 1, _ => exact Wq23 | 2, _ => exact Wq24 | 3, _ => exact Wq25) Wq26
theorem accept_W4 {w0 w : World} {M : ML} {p : Pr} {n : Nat} {L : BL} (H : PH w0 M p (tW 21) n L w) :
    Calls Tryz.prog 30 #[pt p.q, .string (txt 2), .string (txt 3), .string (txt 10), .string (txt 1), .string (txt 13)] w fun e w' => e = .returned (.tuple #[.string (txt 20), iN .i64 0]) ∧ PH w0 M p (tW 21) n L w' :=
  acc_4 H (txt 2) (txt 3) (txt 10) (txt 1) (txt 13) (txM _) (txM _) (txM _) (txM _) (txM _) (tx_ne _) (tW_lt 21) Wq27 [(tW 21), (tW 21), (tW 21), (tW 21), (tW 21)] [14, 15, 16, 17] rfl (by intro j hj; match j, hj with | 0, _ => exact tW_lt _ | 1, _ => exact tW_lt _ | 2, _ => exact tW_lt _ | 3, _ => exact tW_lt _ | 4, _ => exact tW_lt _) (by intro j hj; match j, hj with | 0, _ => exact Wq28 | 1, _ => exact Wq29 | 2, _ => exact Wq30 | 3, _ => exact Wq31) Wq32
theorem accept_W3 {w0 w : World} {M : ML} {p : Pr} {n : Nat} {L : BL} (H : PH w0 M p (tW 21) n L w) :
    Calls Tryz.prog 30 #[pt p.q, .string (txt 2), .string (txt 3), .string { data := #[] }, .string (txt 1), .string (txt 13)] w fun e w' => e = .returned (.tuple #[.string (txt 22), iN .i64 0]) ∧ PH w0 M p (tW 23) n L w' :=
  acc_3 H (txt 2) (txt 3) { data := #[] } (txt 1) (txt 13) (txM _) (txM _) (by decide) (txM _) (txM _) rfl (tW_lt 21) Wq33 [(tW 21), (tW 21), (tW 21), (tW 21)] [14, 15, 16] rfl (by intro j hj; match j, hj with | 0, _ => exact tW_lt _ | 1, _ => exact tW_lt _ | 2, _ => exact tW_lt _ | 3, _ => exact tW_lt _) (by intro j hj; match j, hj with | 0, _ => exact Wq34 | 1, _ => exact Wq35 | 2, _ => exact Wq36) Wq37
set_option linter.unusedVariables false in
set_option maxRecDepth 100000 in
set_option maxHeartbeats 2000000 in
theorem works_P (w : World) :
    Calls Tryz.prog 14 #[] w fun e w' => e = .returned (.bool true) ∧ Below w.heap.size w w' := by
  have H0 : HA ⟨w, []⟩ [] w := HA.start w
  go_enter Tryz.func14, Tryz.ntmps14
  refine wp_seq (wl_region ?_)
  refine zv (.bool false) ?_
  refine wl_nil (then_at rfl (wp_seq (wl_region ?_)))
  refine wl_callx ky enter15 #[iN .i64 1] ky (New_P H0) ?_
  rintro _ w3 ⟨p1, rfl, hD2⟩
  refine ⟨_, rfl, ?_⟩
  obtain ⟨z4, X5, hcl6, hbe7, h8⟩ := PH.front hD2
  have h9 : HA z4 X5 w3 := h8
  refine zv (.tuple #[.pointer (some ⟨p1.q, 0, none⟩), iN .i64 0]) ?_
  refine zv (.pointer (some ⟨p1.q, 0, none⟩)) ?_
  refine zv (iN .i64 0) ?_
  refine zv (.pointer (some ⟨p1.q, 0, none⟩)) ?_
  refine zv (iN .i64 0) ?_
  refine wl_nil (then_at rfl (wp_seq (wp_seq (wl_region ?_))))
  refine zv (iN .i64 0) ?_
  refine zv (.bool false) ?_
  refine wl_nil (then_at rfl ?_)
  refine wp_cond_false ky ?_
  refine wp_skip (then_at rfl (wp_seq (wl_region ?_)))
  refine zv (.pointer (some ⟨p1.q, 0, none⟩)) ?_
  refine wl_callx ky enter18 #[.pointer (some ⟨p1.q, 0, none⟩), .string ({ data := #[] })] ky (Secret_E (hcl6 ([]) _ h9) { data := #[] } (Nat.lt_of_lt_of_le (tW_lt 0) (by decide)) Wq0 Wq1) ?_
  rintro _ w11 ⟨rfl, hD10⟩
  refine ⟨_, rfl, ?_⟩
  obtain ⟨z12, X13, hcl14, hbe15, h16⟩ := PH.front hD10
  have h17 : HA z12 X13 w11 := h16
  refine zv (.string ((txt 0))) ?_
  refine wl_nil (then_at rfl (wp_seq (wl_region ?_)))
  refine zv (.pointer (some ⟨p1.q, 0, none⟩)) ?_
  refine zv (.string ((txt 0))) ?_
  refine wl_callx ky enter33 #[.pointer (some ⟨p1.q, 0, none⟩), .string ((txt 0))] ky (Public_E (hcl14 ([]) _ h17) (txt 0) (txL _) (Nat.lt_of_lt_of_le (tW_lt 1) (by decide)) Wq2) ?_
  rintro _ w19 ⟨rfl, hD18⟩
  refine ⟨_, rfl, ?_⟩
  obtain ⟨z20, X21, hcl22, hbe23, h24⟩ := PH.front hD18
  have h25 : HA z20 X21 w19 := h24
  refine zv (.tuple #[.string ((txt 1)), iN .i64 0]) ?_
  refine zv (.string ((txt 1))) ?_
  refine zv (iN .i64 0) ?_
  refine zv (.string ((txt 1))) ?_
  refine zv (iN .i64 0) ?_
  refine wl_nil (then_at rfl (wp_seq (wl_region ?_)))
  refine zv (.pointer (some ⟨p1.q, 0, none⟩)) ?_
  refine zv (.agg #[.string ({ data := #[] }), .string ({ data := #[] }), .string ({ data := #[] }), .string ({ data := #[] })]) ?_
  refine wl_callx ky enter34 #[.pointer (some ⟨p1.q, 0, none⟩), .agg #[.string ({ data := #[] }), .string ({ data := #[] }), .string ({ data := #[] }), .string ({ data := #[] })], .bool true] ky (made_W (hcl22 ([]) _ h25) (by decide)) ?_
  rintro _ w27 ⟨rfl, hD26⟩
  refine ⟨_, rfl, ?_⟩
  obtain ⟨z28, X29, hcl30, hbe31, h32⟩ := PH.front hD26
  have h33 : HA z28 X29 w27 := h32
  refine zv (.tuple #[.agg (dvC ((txt 2)) ((txt 3)) ((txt 10)) ((txt 5)) (mkB 1 1 ((txt 7)) ((txt 5)) 3 ((txt 6)) ((txt 9)) 9 ((txt 11)))), .bool true]) ?_
  refine zv (.agg (dvC ((txt 2)) ((txt 3)) ((txt 10)) ((txt 5)) (mkB 1 1 ((txt 7)) ((txt 5)) 3 ((txt 6)) ((txt 9)) 9 ((txt 11))))) ?_
  refine zv (.bool true) ?_
  refine wl_make (c := dvC ({ data := #[] }) ({ data := #[] }) ({ data := #[] }) ({ data := #[] }) (mkB 0 0 ({ data := #[] }) ({ data := #[] }) 0 ({ data := #[] }) ({ data := #[] }) 0 ({ data := #[] }))) h33 77 ky ky ?_
  intro q34 w35 (h36 : HA z28 ((q34, 77, dvC ({ data := #[] }) ({ data := #[] }) ({ data := #[] }) ({ data := #[] }) (mkB 0 0 ({ data := #[] }) ({ data := #[] }) 0 ({ data := #[] }) ({ data := #[] }) 0 ({ data := #[] }))) :: X29) w35)
  refine wl_fill (c' := dvC ((txt 2)) ((txt 3)) ((txt 10)) ((txt 5)) (mkB 1 1 ((txt 7)) ((txt 5)) 3 ((txt 6)) ((txt 9)) 9 ((txt 11)))) h36 0 rfl ky ky ky rfl ky ky ?_
  intro w37 (h38 : HA z28 ((q34, 77, dvC ((txt 2)) ((txt 3)) ((txt 10)) ((txt 5)) (mkB 1 1 ((txt 7)) ((txt 5)) 3 ((txt 6)) ((txt 9)) 9 ((txt 11)))) :: X29) w37)
  refine zv (.bool true) ?_
  refine wl_nil (then_at rfl (wp_seq (wl_region ?_)))
  refine zv (.pointer (some ⟨p1.q, 0, none⟩)) ?_
  refine zv (.string ((txt 0))) ?_
  refine zv (.pointer (some ⟨q34, 4, none⟩)) ?_
  refine zu (.agg (buC (mkB 1 1 ((txt 7)) ((txt 5)) 3 ((txt 6)) ((txt 9)) 9 ((txt 11))))) (run_load_part (q := q34) (off := 4) (d := buC (mkB 1 1 ((txt 7)) ((txt 5)) 3 ((txt 6)) ((txt 9)) 9 ((txt 11)))) ky (h38.get 0 rfl) Tryz.underlying23 rfl ky (by intro j hj; match j, hj with | 0, _ => rfl | 1, _ => rfl | 2, _ => rfl | 3, _ => rfl | 4, _ => rfl | 5, _ => rfl | 6, _ => rfl | 7, _ => rfl | 8, _ => rfl)) ?_
  refine wl_callx ky enter27 #[.pointer (some ⟨p1.q, 0, none⟩), .string ((txt 0)), .agg (buC (mkB 1 1 ((txt 7)) ((txt 5)) 3 ((txt 6)) ((txt 9)) 9 ((txt 11)))), .string ({ data := #[] })] ky (begin_W (hcl30 ((q34, 77, dvC ((txt 2)) ((txt 3)) ((txt 10)) ((txt 5)) (mkB 1 1 ((txt 7)) ((txt 5)) 3 ((txt 6)) ((txt 9)) 9 ((txt 11)))) :: []) _ h38) (by decide)) ?_
  rintro _ w40 ⟨rfl, hD39⟩
  refine ⟨_, rfl, ?_⟩
  obtain ⟨z41, X42, hcl43, hbe44, h45⟩ := PH.front hD39
  have h46 : HA z41 ((q34, 77, dvC ((txt 2)) ((txt 3)) ((txt 10)) ((txt 5)) (mkB 1 1 ((txt 7)) ((txt 5)) 3 ((txt 6)) ((txt 9)) 9 ((txt 11)))) :: X42) w40 := h45
  refine zv (.tuple #[.string ((txt 20)), .string ((txt 13)), iN .i64 0]) ?_
  refine zv (.string ((txt 20))) ?_
  refine zv (.string ((txt 13))) ?_
  refine zv (iN .i64 0) ?_
  refine zv (.string ((txt 20))) ?_
  refine zv (.string ((txt 13))) ?_
  refine zv (iN .i64 0) ?_
  refine wl_nil (then_at rfl (wp_seq (wl_region ?_)))
  refine zv (.pointer (some ⟨p1.q, 0, none⟩)) ?_
  refine zv (.pointer (some ⟨q34, 0, none⟩)) ?_
  refine zu (.string ((txt 2))) (run_load1 (fun w => Tryz.isAgg9 w) ky (((h46.get 0 rfl).cell 0).trans rfl)) ?_
  refine zv (.pointer (some ⟨q34, 1, none⟩)) ?_
  refine zu (.string ((txt 3))) (run_load1 (fun w => Tryz.isAgg9 w) ky (((h46.get 0 rfl).cell 1).trans rfl)) ?_
  refine zv (.pointer (some ⟨q34, 2, none⟩)) ?_
  refine zu (.string ((txt 10))) (run_load1 (fun w => Tryz.isAgg9 w) ky (((h46.get 0 rfl).cell 2).trans rfl)) ?_
  refine zv (.string ((txt 1))) ?_
  refine zv (.string ((txt 13))) ?_
  refine wl_callx ky enter30 #[.pointer (some ⟨p1.q, 0, none⟩), .string ((txt 2)), .string ((txt 3)), .string ((txt 10)), .string ((txt 1)), .string ((txt 13))] ky (accept_W4 (hcl43 ((q34, 77, dvC ((txt 2)) ((txt 3)) ((txt 10)) ((txt 5)) (mkB 1 1 ((txt 7)) ((txt 5)) 3 ((txt 6)) ((txt 9)) 9 ((txt 11)))) :: []) _ h46)) ?_
  rintro _ w48 ⟨rfl, hD47⟩
  refine ⟨_, rfl, ?_⟩
  obtain ⟨z49, X50, hcl51, hbe52, h53⟩ := PH.front hD47
  have h54 : HA z49 ((q34, 77, dvC ((txt 2)) ((txt 3)) ((txt 10)) ((txt 5)) (mkB 1 1 ((txt 7)) ((txt 5)) 3 ((txt 6)) ((txt 9)) 9 ((txt 11)))) :: X50) w48 := h53
  refine zv (.tuple #[.string ((txt 20)), iN .i64 0]) ?_
  refine zv (.string ((txt 20))) ?_
  refine zv (iN .i64 0) ?_
  refine zv (.string ((txt 20))) ?_
  refine zv (iN .i64 0) ?_
  refine wl_nil (then_at rfl (wp_seq (wl_region ?_)))
  refine zv (.pointer (some ⟨p1.q, 0, none⟩)) ?_
  refine zv (.pointer (some ⟨q34, 0, none⟩)) ?_
  refine zu (.string ((txt 2))) (run_load1 (fun w => Tryz.isAgg9 w) ky (((h54.get 0 rfl).cell 0).trans rfl)) ?_
  refine zv (.pointer (some ⟨q34, 1, none⟩)) ?_
  refine zu (.string ((txt 3))) (run_load1 (fun w => Tryz.isAgg9 w) ky (((h54.get 0 rfl).cell 1).trans rfl)) ?_
  refine zv (.string ((txt 1))) ?_
  refine zv (.string ((txt 13))) ?_
  refine wl_callx ky enter30 #[.pointer (some ⟨p1.q, 0, none⟩), .string ((txt 2)), .string ((txt 3)), .string ({ data := #[] }), .string ((txt 1)), .string ((txt 13))] ky (accept_W3 (hcl51 ((q34, 77, dvC ((txt 2)) ((txt 3)) ((txt 10)) ((txt 5)) (mkB 1 1 ((txt 7)) ((txt 5)) 3 ((txt 6)) ((txt 9)) 9 ((txt 11)))) :: []) _ h54)) ?_
  rintro _ w56 ⟨rfl, hD55⟩
  refine ⟨_, rfl, ?_⟩
  obtain ⟨z57, X58, hcl59, hbe60, h61⟩ := PH.front hD55
  have h62 : HA z57 ((q34, 77, dvC ((txt 2)) ((txt 3)) ((txt 10)) ((txt 5)) (mkB 1 1 ((txt 7)) ((txt 5)) 3 ((txt 6)) ((txt 9)) 9 ((txt 11)))) :: X58) w56 := h61
  refine zv (.tuple #[.string ((txt 22)), iN .i64 0]) ?_
  refine zv (.string ((txt 22))) ?_
  refine zv (iN .i64 0) ?_
  refine zv (.string ((txt 22))) ?_
  refine zv (iN .i64 0) ?_
  refine wl_nil (then_at rfl (wp_seq (wl_region ?_)))
  refine zv (.bool true) ?_
  refine zv (.bool true) ?_
  refine zv (.pointer (some ⟨p1.q, 0, none⟩)) ?_
  refine zv (.pointer (some ⟨q34, 4, none⟩)) ?_
  refine zu (.agg (buC (mkB 1 1 ((txt 7)) ((txt 5)) 3 ((txt 6)) ((txt 9)) 9 ((txt 11))))) (run_load_part (q := q34) (off := 4) (d := buC (mkB 1 1 ((txt 7)) ((txt 5)) 3 ((txt 6)) ((txt 9)) 9 ((txt 11)))) ky (h62.get 0 rfl) Tryz.underlying23 rfl ky (by intro j hj; match j, hj with | 0, _ => rfl | 1, _ => rfl | 2, _ => rfl | 3, _ => rfl | 4, _ => rfl | 5, _ => rfl | 6, _ => rfl | 7, _ => rfl | 8, _ => rfl)) ?_
  refine wl_callx ky enter26 #[.pointer (some ⟨p1.q, 0, none⟩), .agg (buC (mkB 1 1 ((txt 7)) ((txt 5)) 3 ((txt 6)) ((txt 9)) 9 ((txt 11))))] ky (chk_y (hcl59 ((q34, 77, dvC ((txt 2)) ((txt 3)) ((txt 10)) ((txt 5)) (mkB 1 1 ((txt 7)) ((txt 5)) 3 ((txt 6)) ((txt 9)) 9 ((txt 11)))) :: []) _ h62) (mkB 1 1 ((txt 7)) ((txt 5)) 3 ((txt 6)) ((txt 9)) 9 ((txt 11))) Wq17 (mayX_iff Wq17) Wq38 (by decide)) ?_
  rintro _ w64 ⟨rfl, hD63⟩
  refine ⟨_, rfl, ?_⟩
  obtain ⟨z65, X66, hcl67, hbe68, h69⟩ := PH.front hD63
  have h70 : HA z65 ((q34, 77, dvC ((txt 2)) ((txt 3)) ((txt 10)) ((txt 5)) (mkB 1 1 ((txt 7)) ((txt 5)) 3 ((txt 6)) ((txt 9)) 9 ((txt 11)))) :: X66) w64 := h69
  refine zv (.bool true) ?_
  refine zv (.bool true) ?_
  refine zv (.bool true) ?_
  refine zv (iN .i64 0) ?_
  refine zv (.bool true) ?_
  refine zv (.bool true) ?_
  refine zv (.bool true) ?_
  refine zv (iN .i64 0) ?_
  refine zv (.bool true) ?_
  refine zv (.bool true) ?_
  refine zv (.bool true) ?_
  refine zv (iN .i64 0) ?_
  refine zv (.bool true) ?_
  refine zv (.bool true) ?_
  refine zv (.bool true) ?_
  refine zv (.string ((txt 20))) ?_
  refine zv (.string ((txt 20))) ?_
  refine zu (.bool true) (run_eqs (s := (txt 20)) (t := (txt 20)) ky ky true ky) ?_
  refine zv (.bool true) ?_
  refine zv (.bool true) ?_
  refine zv (.string ((txt 20))) ?_
  refine zv (.string ((txt 22))) ?_
  refine zu (.bool true) (run_nes (s := (txt 20)) (t := (txt 22)) ky ky true ky) ?_
  refine zv (.bool true) ?_
  refine zv (.bool true) ?_
  refine zv (.string ((txt 20))) ?_
  refine zu (.bool true) (run_nes (s := (txt 20)) (t := { data := #[] }) ky ky true ky) ?_
  refine zv (.bool true) ?_
  refine zv (.bool true) ?_
  refine wl_nil (then_at rfl ?_)
  refine wp_ret ?_
  repeat first | refine then_ret ?_ | refine block_ret ?_
  exact bodyPost_ret (v := .bool true) ky rfl ⟨rfl, hbe68 _ _ h70⟩
end Go.Proofs.YtoogiblkommdfaaGreat
