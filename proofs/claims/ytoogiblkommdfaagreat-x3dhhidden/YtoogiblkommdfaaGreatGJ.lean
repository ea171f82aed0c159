/-
  The tables of the runs; works.
-/
import Derived.Test.YtoogiblkommdfaaGreatX8
import Derived.Test.YtoogiblkommdfaaGreatGI
import Derived.Test.YtoogiblkommdfaaGreatX7
namespace Go.Proofs.YtoogiblkommdfaaGreat
open Go.RowKit

theorem txM (k : Nat) : (txt k).size ≤ 10000 := by rw [txt_size]; decide
def TW : List Ent := [.nm 0,
  .mk 3 0 { data := #[] } [0] 0,
  .nm 1,
  .nm 2,
  .nm 3,
  .mk 3 0 { data := #[] } [2] 0,
  .mk 3 0 { data := #[] } [3] 0,
  .mk 3 0 { data := #[] } [4] 0,
  .dt { data := #[112, 114, 101, 0, 0, 0, 3, 0, 0, 0, 8, 240, 84, 82, 77, 0, 0, 0, 6] },
  .mk 7 0 { data := #[] } [4, 8] 0,
  .nm 4,
  .mk 3 0 { data := #[] } [10] 0,
  .nm 5,
  .mk 3 0 { data := #[] } [12] 0,
  .mk 4 0 { data := #[] } [0, 3] 0,
  .mk 4 0 { data := #[] } [2, 12] 0,
  .mk 4 0 { data := #[] } [3, 12] 0,
  .mk 4 0 { data := #[] } [10, 12] 0,
  .dt { data := #[0, 0, 0, 8, 240, 84, 82, 77, 0, 0, 0, 14, 0, 0, 0, 8, 240, 84, 82, 77, 0, 0, 0, 15, 0, 0, 0, 8, 240, 84, 82, 77, 0, 0, 0, 16, 0, 0, 0, 8, 240, 84, 82, 77, 0, 0, 0, 17] },
  .dt { data := #[0, 0, 0, 8, 240, 84, 82, 77, 0, 0, 0, 1, 0, 0, 0, 8, 240, 84, 82, 77, 0, 0, 0, 5, 0, 0, 0, 8, 240, 84, 82, 77, 0, 0, 0, 13] },
  .mk 5 0 { data := #[120, 51, 100, 104, 0] } [18, 19] 0,
  .dt { data := #[0, 0, 0, 8, 240, 84, 82, 77, 0, 0, 0, 14, 0, 0, 0, 8, 240, 84, 82, 77, 0, 0, 0, 15, 0, 0, 0, 8, 240, 84, 82, 77, 0, 0, 0, 16] },
  .mk 5 0 { data := #[120, 51, 100, 104, 0] } [21, 19] 0]
def tW (k : Nat) : List Ent := TW.take k
theorem tW_lt (k : Nat) : (tW k).length < 50000 := Nat.lt_of_le_of_lt (List.length_take_le' _ _) (by decide)
theorem Wq0 : frA (tW 0) = (tW 1) := by kernel_rfl
theorem Wq1 : (tW 0).length = 0 := by kernel_rfl
theorem Wq2 : mkA (tW 1) 3 { data := #[] } [txt 0] = ((tW 2), 1) := by kernel_rfl
theorem Wq3 : frA (tW 2) = (tW 3) := by kernel_rfl
theorem Wq4 : (tW 2).length = 2 := by kernel_rfl
theorem Wq5 : frA (tW 3) = (tW 4) := by kernel_rfl
theorem Wq6 : (tW 3).length = 3 := by kernel_rfl
theorem Wq7 : frA (tW 4) = (tW 5) := by kernel_rfl
theorem Wq8 : (tW 4).length = 4 := by kernel_rfl
theorem Wq9 : mkA (tW 5) 3 { data := #[] } [txt 2] = ((tW 6), 5) := by kernel_rfl
theorem Wq10 : mkA (tW 6) 3 { data := #[] } [txt 3] = ((tW 7), 6) := by kernel_rfl
theorem Wq11 : mkA (tW 7) 3 { data := #[] } [txt 4] = ((tW 8), 7) := by kernel_rfl
theorem Wq12 : mkA (tW 8) 3 { data := #[] } [txt 4] = ((tW 8), 7) := by kernel_rfl
theorem Wq13 : mkA (tW 8) 7 { data := #[] } [txt 4, sg3 (txt 6)] = ((tW 10), 9) := by kernel_rfl
theorem Wq14 : frA (tW 10) = (tW 11) := by kernel_rfl
theorem Wq15 : (tW 10).length = 10 := by kernel_rfl
theorem Wq16 : mkA (tW 11) 3 { data := #[] } [txt 10] = ((tW 12), 11) := by kernel_rfl
theorem Wq17 : mayX (mkB 1 1 ((txt 7)) ((txt 5)) 3 ((txt 6)) ((txt 9)) 9 ((txt 11))) = true := by kernel_rfl
theorem Wq18 : decide ((mkB 1 1 ((txt 7)) ((txt 5)) 3 ((txt 6)) ((txt 9)) 9 ((txt 11))) = bare (mkB 1 1 ((txt 7)) ((txt 5)) 3 ((txt 6)) ((txt 9)) 9 ((txt 11)))) = false := by kernel_rfl
theorem Wq19 : vrfA (tW 12) (txt 7) (sgT (mkB 1 1 ((txt 7)) ((txt 5)) 3 ((txt 6)) ((txt 9)) 9 ((txt 11)))) (txt 9) = true := by kernel_rfl
theorem Wq20 : mkA (tW 12) 3 { data := #[] } [txt 0] = ((tW 12), 1) := by kernel_rfl
theorem Wq21 : mkA (frA (tW 12)) 3 { data := #[] } [txt (tW 12).length] = ((tW 14), 13) := by kernel_rfl
theorem Wq22 : mkA (tW 14) 4 { data := #[] } [txt 0, txt 6] = ((tW 15), 14) := by kernel_rfl
theorem Wq23 : mkA (tW 15) 4 { data := #[] } [txt (tW 12).length, txt 5] = ((tW 16), 15) := by kernel_rfl
theorem Wq24 : mkA (tW 16) 4 { data := #[] } [txt (tW 12).length, txt 6] = ((tW 17), 16) := by kernel_rfl
theorem Wq25 : mkA (tW 17) 4 { data := #[] } [txt (tW 12).length, txt 11] = ((tW 18), 17) := by kernel_rfl
theorem Wq26 : dv (tW 18) (layT (shr [14, 15, 16, 17] 4) 4) (layT [txt 1, txt 5, txt 13] 3) x3I 1 = ((tW 21), [txt 20]) := by kernel_rfl
theorem Wq27 : mkA (tW 21) 3 { data := #[] } [txt 2] = ((tW 21), 5) := by kernel_rfl
theorem Wq28 : mkA (tW 21) 4 { data := #[] } [txt 3, txt 1] = ((tW 21), 14) := by kernel_rfl
theorem Wq29 : mkA (tW 21) 4 { data := #[] } [txt 2, txt 13] = ((tW 21), 15) := by kernel_rfl
theorem Wq30 : mkA (tW 21) 4 { data := #[] } [txt 3, txt 13] = ((tW 21), 16) := by kernel_rfl
theorem Wq31 : mkA (tW 21) 4 { data := #[] } [txt 10, txt 13] = ((tW 21), 17) := by kernel_rfl
theorem Wq32 : dv (tW 21) (layT (shr [14, 15, 16, 17] 4) 4) (layT [txt 1, txt 5, txt 13] 3) x3I 1 = ((tW 21), [txt 20]) := by kernel_rfl
theorem Wq33 : mkA (tW 21) 3 { data := #[] } [txt 2] = ((tW 21), 5) := by kernel_rfl
theorem Wq34 : mkA (tW 21) 4 { data := #[] } [txt 3, txt 1] = ((tW 21), 14) := by kernel_rfl
theorem Wq35 : mkA (tW 21) 4 { data := #[] } [txt 2, txt 13] = ((tW 21), 15) := by kernel_rfl
theorem Wq36 : mkA (tW 21) 4 { data := #[] } [txt 3, txt 13] = ((tW 21), 16) := by kernel_rfl
theorem Wq37 : dv (tW 21) (layT (shr [14, 15, 16] 3) 3) (layT [txt 1, txt 5, txt 13] 3) x3I 1 = ((tW 23), [txt 22]) := by kernel_rfl
theorem Wq38 : vrfA (tW 23) (txt 7) (sgT (mkB 1 1 ((txt 7)) ((txt 5)) 3 ((txt 6)) ((txt 9)) 9 ((txt 11)))) (txt 9) = true := by kernel_rfl
theorem made_W {w0 w : World} {M : ML} {p : Pr} {n : Nat} {L : BL} (H : PH w0 M p (tW 2) n L w) (hj : n < 1000) :
    Calls Tryz.prog 34 #[pt p.q, .agg #[.string { data := #[] }, .string { data := #[] }, .string { data := #[] }, .string { data := #[] }], .bool true] w fun e w' => e = .returned (.tuple #[.agg (dvC ((txt 2)) ((txt 3)) ((txt 10)) ((txt 5)) (mkB 1 1 ((txt 7)) ((txt 5)) 3 ((txt 6)) ((txt 9)) 9 ((txt 11)))), .bool true]) ∧ PH w0 M p (tW 12) (n + 1) L w' :=
  made_t H Wq3 Wq4 Wq5 Wq6 Wq7 Wq8 Wq9 Wq10 Wq11 Wq12 Wq13 (tW_lt 2) (tW_lt 3) (tW_lt 4) (tW_lt 5) (tW_lt 6) (tW_lt 7) (tW_lt 8) hj Wq14 Wq15 Wq16 (tW_lt 10) (tW_lt 11)
theorem begin_W {w0 w : World} {M : ML} {p : Pr} {n : Nat} {L : BL} (H : PH w0 M p (tW 12) n L w) (hj : n < 1000) :
    Calls Tryz.prog 27 #[pt p.q, .string (txt 0), .agg (buC (mkB 1 1 ((txt 7)) ((txt 5)) 3 ((txt 6)) ((txt 9)) 9 ((txt 11)))), .string { data := #[] }] w fun e w' => e = .returned (.tuple #[.string (txt 20), .string (txt 13), iN .i64 0]) ∧ PH w0 M p (tW 21) (n + 1) L w' :=
  beg_4 H (txt 0) (mkB 1 1 ((txt 7)) ((txt 5)) 3 ((txt 6)) ((txt 9)) 9 ((txt 11))) { data := #[] } (txM _) Wq17 (mayX_iff Wq17) Wq18 Wq19 (by omega) (tW_lt 12) Wq20 (tW_lt 12) Wq21 [(tW 14), (tW 15), (tW 16), (tW 17), (tW 18)] [14, 15, 16, 17] rfl (by intro j hj; match j, hj with | 0, _ => exact tW_lt _ | 1, _ => exact tW_lt _ | 2, _ => exact tW_lt _ | 3, _ => exact tW_lt _ | 4, _ => exact tW_lt _) (by intro j hj; match j, hj with | 0, _ => exact Wq22 | 1, _ => exact Wq23 | 2, _ => exact Wq24 | 3, _ => exact Wq25) Wq26
theorem accept_W4 {w0 w : World} {M : ML} {p : Pr} {n : Nat} {L : BL} (H : PH w0 M p (tW 21) n L w) :
    Calls Tryz.prog 30 #[pt p.q, .string (txt 2), .string (txt 3), .string (txt 10), .string (txt 1), .string (txt 13)] w fun e w' => e = .returned (.tuple #[.string (txt 20), iN .i64 0]) ∧ PH w0 M p (tW 21) n L w' :=
  acc_4 H (txt 2) (txt 3) (txt 10) (txt 1) (txt 13) (txM _) (txM _) (txM _) (txM _) (txM _) (tx_ne _) (tW_lt 21) Wq27 [(tW 21), (tW 21), (tW 21), (tW 21), (tW 21)] [14, 15, 16, 17] rfl (by intro j hj; match j, hj with | 0, _ => exact tW_lt _ | 1, _ => exact tW_lt _ | 2, _ => exact tW_lt _ | 3, _ => exact tW_lt _ | 4, _ => exact tW_lt _) (by intro j hj; match j, hj with | 0, _ => exact Wq28 | 1, _ => exact Wq29 | 2, _ => exact Wq30 | 3, _ => exact Wq31) Wq32
theorem accept_W3 {w0 w : World} {M : ML} {p : Pr} {n : Nat} {L : BL} (H : PH w0 M p (tW 21) n L w) :
    Calls Tryz.prog 30 #[pt p.q, .string (txt 2), .string (txt 3), .string { data := #[] }, .string (txt 1), .string (txt 13)] w fun e w' => e = .returned (.tuple #[.string (txt 22), iN .i64 0]) ∧ PH w0 M p (tW 23) n L w' :=
  acc_3 H (txt 2) (txt 3) { data := #[] } (txt 1) (txt 13) (txM _) (txM _) (by decide) (txM _) (txM _) rfl (tW_lt 21) Wq33 [(tW 21), (tW 21), (tW 21), (tW 21)] [14, 15, 16] rfl (by intro j hj; match j, hj with | 0, _ => exact tW_lt _ | 1, _ => exact tW_lt _ | 2, _ => exact tW_lt _ | 3, _ => exact tW_lt _) (by intro j hj; match j, hj with | 0, _ => exact Wq34 | 1, _ => exact Wq35 | 2, _ => exact Wq36) Wq37
set_option linter.unusedVariables false in
set_option maxRecDepth 100000 in
set_option maxHeartbeats 2000000 in
theorem works_P (w : World) :
    Calls Tryz.prog 14 #[] w fun e w' => e = .returned (.bool true) ∧ Below w.heap.size w w' := by
  have H0 : HA ⟨w, []⟩ [] w := HA.start w
  go_enter Tryz.func14, Tryz.ntmps14
  refine wp_seq (wl_region ?_)
  refine zv (.bool false) ?_
  refine wl_nil (then_at rfl (wp_seq (wl_region ?_)))
  refine wl_callx ky enter15 #[iN .i64 1] ky (New_P H0) ?_
  rintro _ w3 ⟨p1, rfl, hD2⟩
  refine ⟨_, rfl, ?_⟩
  obtain ⟨z4, X5, hcl6, hbe7, h8⟩ := PH.front hD2
  have h9 : HA z4 X5 w3 := h8
  refine zv (.tuple #[.pointer (some ⟨p1.q, 0, none⟩), iN .i64 0]) ?_
  refine zv (.pointer (some ⟨p1.q, 0, none⟩)) ?_
  refine zv (iN .i64 0) ?_
  refine zv (.pointer (some ⟨p1.q, 0, none⟩)) ?_
  refine zv (iN .i64 0) ?_
  refine wl_nil (then_at rfl (wp_seq (wp_seq (wl_region ?_))))
  refine zv (iN .i64 0) ?_
  refine zv (.bool false) ?_
  refine wl_nil (then_at rfl ?_)
  refine wp_cond_false ky ?_
  refine wp_skip (then_at rfl (wp_seq (wl_region ?_)))
  refine zv (.pointer (some ⟨p1.q, 0, none⟩)) ?_
  refine wl_callx ky enter18 #[.pointer (some ⟨p1.q, 0, none⟩), .string ({ data := #[] })] ky (Secret_E (hcl6 ([]) _ h9) { data := #[] } (Nat.lt_of_lt_of_le (tW_lt 0) (by decide)) Wq0 Wq1) ?_
  rintro _ w11 ⟨rfl, hD10⟩
  refine ⟨_, rfl, ?_⟩
  obtain ⟨z12, X13, hcl14, hbe15, h16⟩ := PH.front hD10
  have h17 : HA z12 X13 w11 := h16
  refine zv (.string ((txt 0))) ?_
  refine wl_nil (then_at rfl (wp_seq (wl_region ?_)))
  refine zv (.pointer (some ⟨p1.q, 0, none⟩)) ?_
  refine zv (.string ((txt 0))) ?_
  refine wl_callx ky enter33 #[.pointer (some ⟨p1.q, 0, none⟩), .string ((txt 0))] ky (Public_E (hcl14 ([]) _ h17) (txt 0) (txL _) (Nat.lt_of_lt_of_le (tW_lt 1) (by decide)) Wq2) ?_
  rintro _ w19 ⟨rfl, hD18⟩
  refine ⟨_, rfl, ?_⟩
  obtain ⟨z20, X21, hcl22, hbe23, h24⟩ := PH.front hD18
  have h25 : HA z20 X21 w19 := h24
  refine zv (.tuple #[.string ((txt 1)), iN .i64 0]) ?_
  refine zv (.string ((txt 1))) ?_
  refine zv (iN .i64 0) ?_
  refine zv (.string ((txt 1))) ?_
  refine zv (iN .i64 0) ?_
  refine wl_nil (then_at rfl (wp_seq (wl_region ?_)))
  refine zv (.pointer (some ⟨p1.q, 0, none⟩)) ?_
  refine zv (.agg #[.string ({ data := #[] }), .string ({ data := #[] }), .string ({ data := #[] }), .string ({ data := #[] })]) ?_
  refine wl_callx ky enter34 #[.pointer (some ⟨p1.q, 0, none⟩), .agg #[.string ({ data := #[] }), .string ({ data := #[] }), .string ({ data := #[] }), .string ({ data := #[] })], .bool true] ky (made_W (hcl22 ([]) _ h25) (by decide)) ?_
  rintro _ w27 ⟨rfl, hD26⟩
  refine ⟨_, rfl, ?_⟩
  obtain ⟨z28, X29, hcl30, hbe31, h32⟩ := PH.front hD26
  have h33 : HA z28 X29 w27 := h32
  refine zv (.tuple #[.agg (dvC ((txt 2)) ((txt 3)) ((txt 10)) ((txt 5)) (mkB 1 1 ((txt 7)) ((txt 5)) 3 ((txt 6)) ((txt 9)) 9 ((txt 11)))), .bool true]) ?_
  refine zv (.agg (dvC ((txt 2)) ((txt 3)) ((txt 10)) ((txt 5)) (mkB 1 1 ((txt 7)) ((txt 5)) 3 ((txt 6)) ((txt 9)) 9 ((txt 11))))) ?_
  refine zv (.bool true) ?_
  refine wl_make (c := dvC ({ data := #[] }) ({ data := #[] }) ({ data := #[] }) ({ data := #[] }) (mkB 0 0 ({ data := #[] }) ({ data := #[] }) 0 ({ data := #[] }) ({ data := #[] }) 0 ({ data := #[] }))) h33 77 ky ky ?_
  intro q34 w35 (h36 : HA z28 ((q34, 77, dvC ({ data := #[] }) ({ data := #[] }) ({ data := #[] }) ({ data := #[] }) (mkB 0 0 ({ data := #[] }) ({ data := #[] }) 0 ({ data := #[] }) ({ data := #[] }) 0 ({ data := #[] }))) :: X29) w35)
  refine wl_fill (c' := dvC ((txt 2)) ((txt 3)) ((txt 10)) ((txt 5)) (mkB 1 1 ((txt 7)) ((txt 5)) 3 ((txt 6)) ((txt 9)) 9 ((txt 11)))) h36 0 rfl ky ky ky rfl ky ky ?_
  intro w37 (h38 : HA z28 ((q34, 77, dvC ((txt 2)) ((txt 3)) ((txt 10)) ((txt 5)) (mkB 1 1 ((txt 7)) ((txt 5)) 3 ((txt 6)) ((txt 9)) 9 ((txt 11)))) :: X29) w37)
  refine zv (.bool true) ?_
  refine wl_nil (then_at rfl (wp_seq (wl_region ?_)))
  refine zv (.pointer (some ⟨p1.q, 0, none⟩)) ?_
  refine zv (.string ((txt 0))) ?_
  refine zv (.pointer (some ⟨q34, 4, none⟩)) ?_
  refine zu (.agg (buC (mkB 1 1 ((txt 7)) ((txt 5)) 3 ((txt 6)) ((txt 9)) 9 ((txt 11))))) (run_load_part (q := q34) (off := 4) (d := buC (mkB 1 1 ((txt 7)) ((txt 5)) 3 ((txt 6)) ((txt 9)) 9 ((txt 11)))) ky (h38.get 0 rfl) Tryz.underlying23 rfl ky (by intro j hj; match j, hj with | 0, _ => rfl | 1, _ => rfl | 2, _ => rfl | 3, _ => rfl | 4, _ => rfl | 5, _ => rfl | 6, _ => rfl | 7, _ => rfl | 8, _ => rfl)) ?_
  refine wl_callx ky enter27 #[.pointer (some ⟨p1.q, 0, none⟩), .string ((txt 0)), .agg (buC (mkB 1 1 ((txt 7)) ((txt 5)) 3 ((txt 6)) ((txt 9)) 9 ((txt 11)))), .string ({ data := #[] })] ky (begin_W (hcl30 ((q34, 77, dvC ((txt 2)) ((txt 3)) ((txt 10)) ((txt 5)) (mkB 1 1 ((txt 7)) ((txt 5)) 3 ((txt 6)) ((txt 9)) 9 ((txt 11)))) :: []) _ h38) (by decide)) ?_
  rintro _ w40 ⟨rfl, hD39⟩
  refine ⟨_, rfl, ?_⟩
  obtain ⟨z41, X42, hcl43, hbe44, h45⟩ := PH.front hD39
  have h46 : HA z41 ((q34, 77, dvC ((txt 2)) ((txt 3)) ((txt 10)) ((txt 5)) (mkB 1 1 ((txt 7)) ((txt 5)) 3 ((txt 6)) ((txt 9)) 9 ((txt 11)))) :: X42) w40 := h45
  refine zv (.tuple #[.string ((txt 20)), .string ((txt 13)), iN .i64 0]) ?_
  refine zv (.string ((txt 20))) ?_
  refine zv (.string ((txt 13))) ?_
  refine zv (iN .i64 0) ?_
  refine zv (.string ((txt 20))) ?_
  refine zv (.string ((txt 13))) ?_
  refine zv (iN .i64 0) ?_
  refine wl_nil (then_at rfl (wp_seq (wl_region ?_)))
  refine zv (.pointer (some ⟨p1.q, 0, none⟩)) ?_
  refine zv (.pointer (some ⟨q34, 0, none⟩)) ?_
  refine zu (.string ((txt 2))) (run_load1 (fun w => Tryz.isAgg9 w) ky (((h46.get 0 rfl).cell 0).trans rfl)) ?_
  refine zv (.pointer (some ⟨q34, 1, none⟩)) ?_
  refine zu (.string ((txt 3))) (run_load1 (fun w => Tryz.isAgg9 w) ky (((h46.get 0 rfl).cell 1).trans rfl)) ?_
  refine zv (.pointer (some ⟨q34, 2, none⟩)) ?_
  refine zu (.string ((txt 10))) (run_load1 (fun w => Tryz.isAgg9 w) ky (((h46.get 0 rfl).cell 2).trans rfl)) ?_
  refine zv (.string ((txt 1))) ?_
  refine zv (.string ((txt 13))) ?_
  refine wl_callx ky enter30 #[.pointer (some ⟨p1.q, 0, none⟩), .string ((txt 2)), .string ((txt 3)), .string ((txt 10)), .string ((txt 1)), .string ((txt 13))] ky (accept_W4 (hcl43 ((q34, 77, dvC ((txt 2)) ((txt 3)) ((txt 10)) ((txt 5)) (mkB 1 1 ((txt 7)) ((txt 5)) 3 ((txt 6)) ((txt 9)) 9 ((txt 11)))) :: []) _ h46)) ?_
  rintro _ w48 ⟨rfl, hD47⟩
  refine ⟨_, rfl, ?_⟩
  obtain ⟨z49, X50, hcl51, hbe52, h53⟩ := PH.front hD47
  have h54 : HA z49 ((q34, 77, dvC ((txt 2)) ((txt 3)) ((txt 10)) ((txt 5)) (mkB 1 1 ((txt 7)) ((txt 5)) 3 ((txt 6)) ((txt 9)) 9 ((txt 11)))) :: X50) w48 := h53
  refine zv (.tuple #[.string ((txt 20)), iN .i64 0]) ?_
  refine zv (.string ((txt 20))) ?_
  refine zv (iN .i64 0) ?_
  refine zv (.string ((txt 20))) ?_
  refine zv (iN .i64 0) ?_
  refine wl_nil (then_at rfl (wp_seq (wl_region ?_)))
  refine zv (.pointer (some ⟨p1.q, 0, none⟩)) ?_
  refine zv (.pointer (some ⟨q34, 0, none⟩)) ?_
  refine zu (.string ((txt 2))) (run_load1 (fun w => Tryz.isAgg9 w) ky (((h54.get 0 rfl).cell 0).trans rfl)) ?_
  refine zv (.pointer (some ⟨q34, 1, none⟩)) ?_
  refine zu (.string ((txt 3))) (run_load1 (fun w => Tryz.isAgg9 w) ky (((h54.get 0 rfl).cell 1).trans rfl)) ?_
  refine zv (.string ((txt 1))) ?_
  refine zv (.string ((txt 13))) ?_
  refine wl_callx ky enter30 #[.pointer (some ⟨p1.q, 0, none⟩), .string ((txt 2)), .string ((txt 3)), .string ({ data := #[] }), .string ((txt 1)), .string ((txt 13))] ky (accept_W3 (hcl51 ((q34, 77, dvC ((txt 2)) ((txt 3)) ((txt 10)) ((txt 5)) (mkB 1 1 ((txt 7)) ((txt 5)) 3 ((txt 6)) ((txt 9)) 9 ((txt 11)))) :: []) _ h54)) ?_
  rintro _ w56 ⟨rfl, hD55⟩
  refine ⟨_, rfl, ?_⟩
  obtain ⟨z57, X58, hcl59, hbe60, h61⟩ := PH.front hD55
  have h62 : HA z57 ((q34, 77, dvC ((txt 2)) ((txt 3)) ((txt 10)) ((txt 5)) (mkB 1 1 ((txt 7)) ((txt 5)) 3 ((txt 6)) ((txt 9)) 9 ((txt 11)))) :: X58) w56 := h61
  refine zv (.tuple #[.string ((txt 22)), iN .i64 0]) ?_
  refine zv (.string ((txt 22))) ?_
  refine zv (iN .i64 0) ?_
  refine zv (.string ((txt 22))) ?_
  refine zv (iN .i64 0) ?_
  refine wl_nil (then_at rfl (wp_seq (wl_region ?_)))
  refine zv (.bool true) ?_
  refine zv (.bool true) ?_
  refine zv (.pointer (some ⟨p1.q, 0, none⟩)) ?_
  refine zv (.pointer (some ⟨q34, 4, none⟩)) ?_
  refine zu (.agg (buC (mkB 1 1 ((txt 7)) ((txt 5)) 3 ((txt 6)) ((txt 9)) 9 ((txt 11))))) (run_load_part (q := q34) (off := 4) (d := buC (mkB 1 1 ((txt 7)) ((txt 5)) 3 ((txt 6)) ((txt 9)) 9 ((txt 11)))) ky (h62.get 0 rfl) Tryz.underlying23 rfl ky (by intro j hj; match j, hj with | 0, _ => rfl | 1, _ => rfl | 2, _ => rfl | 3, _ => rfl | 4, _ => rfl | 5, _ => rfl | 6, _ => rfl | 7, _ => rfl | 8, _ => rfl)) ?_
  refine wl_callx ky enter26 #[.pointer (some ⟨p1.q, 0, none⟩), .agg (buC (mkB 1 1 ((txt 7)) ((txt 5)) 3 ((txt 6)) ((txt 9)) 9 ((txt 11))))] ky (chk_y (hcl59 ((q34, 77, dvC ((txt 2)) ((txt 3)) ((txt 10)) ((txt 5)) (mkB 1 1 ((txt 7)) ((txt 5)) 3 ((txt 6)) ((txt 9)) 9 ((txt 11)))) :: []) _ h62) (mkB 1 1 ((txt 7)) ((txt 5)) 3 ((txt 6)) ((txt 9)) 9 ((txt 11))) Wq17 (mayX_iff Wq17) Wq38 (by decide)) ?_
  rintro _ w64 ⟨rfl, hD63⟩
  refine ⟨_, rfl, ?_⟩
  obtain ⟨z65, X66, hcl67, hbe68, h69⟩ := PH.front hD63
  have h70 : HA z65 ((q34, 77, dvC ((txt 2)) ((txt 3)) ((txt 10)) ((txt 5)) (mkB 1 1 ((txt 7)) ((txt 5)) 3 ((txt 6)) ((txt 9)) 9 ((txt 11)))) :: X66) w64 := h69
  refine zv (.bool true) ?_
  refine zv (.bool true) ?_
  refine zv (.bool true) ?_
  refine zv (iN .i64 0) ?_
  refine zv (.bool true) ?_
  refine zv (.bool true) ?_
  refine zv (.bool true) ?_
  refine zv (iN .i64 0) ?_
  refine zv (.bool true) ?_
  refine zv (.bool true) ?_
  refine zv (.bool true) ?_
  refine zv (iN .i64 0) ?_
  refine zv (.bool true) ?_
  refine zv (.bool true) ?_
  refine zv (.bool true) ?_
  refine zv (.string ((txt 20))) ?_
  refine zv (.string ((txt 20))) ?_
  refine zu (.bool true) (run_eqs (s := (txt 20)) (t := (txt 20)) ky ky true ky) ?_
  refine zv (.bool true) ?_
  refine zv (.bool true) ?_
  refine zv (.string ((txt 20))) ?_
  refine zv (.string ((txt 22))) ?_
  refine zu (.bool true) (run_nes (s := (txt 20)) (t := (txt 22)) ky ky true ky) ?_
  refine zv (.bool true) ?_
  refine zv (.bool true) ?_
  refine zv (.string ((txt 20))) ?_
  refine zu (.bool true) (run_nes (s := (txt 20)) (t := { data := #[] }) ky ky true ky) ?_
  refine zv (.bool true) ?_
  refine zv (.bool true) ?_
  refine wl_nil (then_at rfl ?_)
  refine wp_ret ?_
  repeat first | refine then_ret ?_ | refine block_ret ?_
  exact bodyPost_ret (v := .bool true) ky rfl ⟨rfl, hbe68 _ _ h70⟩
end Go.Proofs.YtoogiblkommdfaaGreat

namespace Go.Proofs.YtoogiblkommdfaaGreat
open Go.RowKit

/-- the numbers that stand in a text, one by one -/
def occL (m : Nat) (s : ByteArray) : List Nat := (List.range s.size).filterMap fun i => firstT m (s.extract i s.size)
def wth2 (m : Nat) (s : ByteArray) : List Nat := (List.range m).filter fun x => (occL m s).contains x
theorem wth_2 (m : Nat) (s : ByteArray) : wth m s = wth2 m s := by
  unfold wth wth2
  refine List.filter_congr fun x _ => ?_
  rw [Bool.eq_iff_iff, List.any_eq_true, List.contains_iff_mem]
  unfold occL
  rw [List.mem_filterMap]
  constructor
  · rintro ⟨i, hi, h⟩
    exact ⟨i, hi, of_decide_eq_true h⟩
  · rintro ⟨i, hi, h⟩
    exact ⟨i, hi, decide_eq_true h⟩
def itm2 (l : Nat) : Ent → Itm
  | .nm _ => .n
  | .dt s => .d (wth2 l s)
  | .mk k n _ ps _ => .m k n ps
theorem itm_2 (l : Nat) (e : Ent) : itm l e = itm2 l e := by
  cases e with
  | nm _ => rfl
  | mk _ _ _ _ _ => rfl
  | dt s =>
    show Itm.d (wth l s) = Itm.d (wth2 l s)
    rw [wth_2]
theorem itm_z (l : Nat) (e : Ent) : itm l (zE e) = itm l e := by cases e <;> rfl
theorem known_Z (es : List Ent) (ss : List ByteArray) : knownF es ss = knownF (Z es) ss := by
  rw [knownF_I, knownF_I, Z_len]
  have e1 : pubT (Z es) = pubT es := by
    funext x
    unfold pubT
    rw [mks_Z]
  have e2 : (Z es).map (itm es.length) = es.map (itm es.length) := by
    unfold Z
    rw [List.map_map]
    exact List.map_congr_left fun e _ => itm_z _ e
  rw [e1, e2]
theorem known_2 {es : List Ent} {ss : List ByteArray} {m : Nat} (hm : es.length = m) {l : List Itm} {q : List (List Nat)} {r : List Bool} (h1 : es.map (itm2 m) = l) (h2 : ss.map (wth2 m) = q) (h3 : knownI (pubT es) m l q = r) : knownF es ss = r := by
  refine knownL hm (l := l) (q := q) ?_ ?_ h3
  · rw [← h1]
    exact List.map_congr_left fun e _ => itm_2 m e
  · rw [← h2]
    exact List.map_congr_left fun e _ => wth_2 m e
theorem getD_size {l : List ByteArray} {m : Nat} (h : ∀ s ∈ l, s.size ≤ m) (i : Nat) : (l.getD i ByteArray.empty).size ≤ m := by
  rw [List.getD_eq_getElem?_getD]
  cases e : l[i]? with
  | none => exact Nat.zero_le _
  | some s => exact h s (List.mem_of_getElem? e)
theorem boc_at {l : List Bool} {j : Nat} (h : l.getD j true = false) : (boc l)[j]? = some (.bool false) := by
  rw [List.getD_eq_getElem?_getD] at h
  cases e : l[j]? with
  | none => rw [e] at h; cases h
  | some b =>
    rw [e] at h
    unfold boc
    simp only [Option.getD_some] at h
    subst h
    simp [e]
theorem boc_at2 {l : List Bool} {j : Nat} (h : l.getD j false = true) : (boc l)[j]? = some (.bool true) := by
  rw [List.getD_eq_getElem?_getD] at h
  cases e : l[j]? with
  | none => rw [e] at h; cases h
  | some b =>
    rw [e] at h
    unfold boc
    simp only [Option.getD_some] at h
    subst h
    simp [e]
theorem Known_E {w : World} {t : Tb} {es : List Ent} (h : TV w t es) (hok : OkT es) (hm : es.length ≤ 400) {m0 : Int} (hv : w.cell? ⟨0, 0, none⟩ = some (.int .i64 m0)) (ss : List ByteArray) {m g c : Nat} {cur : Array Value} (hl : ss.length = m) (hp : ∀ j, j < m → cur[j]? = some (.string (ss.getD j ByteArray.empty))) (hb : Blk w g 9 cur) (hss : ∀ s ∈ ss, s.size ≤ 1000) (hsl : m ≤ 100) {A : List Ent} (hz : Z es = A) :
    Calls Tryz.prog 37 #[pt t.q, .slice (some ⟨g, 0, none⟩) m c] w fun e w' => ∃ kb, e = .returned (.slice (some ⟨kb, 0, none⟩) es.length es.length) ∧ w.heap.size ≤ kb ∧ Blk w' kb 4 (boc (knownF A ss)) ∧ Below w.heap.size w w' := by
  subst hl
  have h2 := Known_any h hok.wf hok.wg hm (fun i s he => hok.dd s (List.mem_of_getElem? he)) hv ss (some ⟨g, 0, none⟩) c (.inr ⟨g, cur, rfl, hp, hb⟩) (fun i => Nat.le_trans (getD_size hss i) (by decide)) (by omega)
  rw [known_Z es ss, hz] at h2
  exact h2
theorem Within_E {w : World} {t : Tb} {es : List Ent} (h : TV w t es) (hm : es.length ≤ 400) {m0 : Int} (hv : w.cell? ⟨0, 0, none⟩ = some (.int .i64 m0)) (s : ByteArray) (hs : s.size ≤ 1000) {x : Nat} (hx : wth es.length s = [x]) :
    Calls Tryz.prog 36 #[pt t.q, .string s] w fun e w' => ∃ q c c', e = .returned (.slice (some ⟨q, 0, none⟩) 1 c') ∧ w.heap.size ≤ q ∧ Blk w' q 3 c ∧ c[0]? = some (iN .i64 x) ∧ Below w.heap.size w w' := by
  obtain ⟨v, hq, hrow⟩ := h.row
  obtain ⟨p, c, rfl⟩ : ∃ p c, v = .slice p es.length c := by
    rcases hrow with ⟨e1, h2⟩ | ⟨g, cap, cur, h2, _⟩
    · exact ⟨none, 0, by rw [h2, e1]; rfl⟩
    · exact ⟨_, _, h2⟩
  have h2 := Within_blk hq (by omega) hv s (by omega)
  rw [hx] at h2
  refine h2.mono ?_
  rintro e w' ⟨o', c', rfl, hr, hb⟩
  obtain ⟨q, cc, rfl, h3, h4, h5⟩ := hr.resolve_left (by intro e; cases e)
  exact ⟨q, cc, c', rfl, h3, h4, h5 0 (Nat.zero_lt_one), hb⟩
theorem belowT {w v u : World} (h1 : Below w.heap.size w v) (h2 : Below v.heap.size v u) : Below w.heap.size w u := by
  exact h1.trans (h2.mono h1.size)
end Go.Proofs.YtoogiblkommdfaaGreat

namespace Go.Proofs.YtoogiblkommdfaaGreat
open Go.RowKit
namespace Rs
end Rs
open Rs
theorem enc_E {w : World} {x : Bu} {y : ByteArray} {n : Nat} (h : encA x = (y, n)) :
    Calls Tryz.prog 10 #[.agg (buC x)] w fun e w' => e = .returned (.tuple #[.string y, iN .i64 n]) ∧ Below w.heap.size w w' := by
  have := enc_any (w := w) x
  rw [h] at this
  exact this
end Go.Proofs.YtoogiblkommdfaaGreat
