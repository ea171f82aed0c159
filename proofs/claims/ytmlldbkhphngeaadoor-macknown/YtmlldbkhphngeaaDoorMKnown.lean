/-
  the law of the examples.
-/
import Derived.Test.YtmlldbkhphngeaaDoorKf
namespace Go.Proofs.YtmlldbkhphngeaaDoor
open Go.RowKit


set_option linter.unusedVariables false in
set_option maxRecDepth 100000 in
set_option maxHeartbeats 2000000 in
theorem MacKnown_any (w : World) (VV : Vars w) :
    Calls Tryd.prog 9 #[] w fun e w' => e = .returned (.bool true) ∧ Below w.heap.size w w' := by
  have H0 := HA.start w
  go_enter Tryd.func9, Tryd.ntmps9
  refine wp_seq ?_
  -- region 0
  refine wl_region ?_
  refine wl_val (.bool false) (by kernel_rfl) (by kernel_rfl) ?_
  refine wl_nil ?_
  refine then_at (F := ⟨(.bool false :: List.replicate 103 un).toArray, []⟩) (by kernel_rfl) ?_
  refine wp_seq ?_
  -- region 1
  refine wl_region ?_
  refine wl_call (v := .string kSK) H0 (by kernel_rfl) enter18 #[.string { data := #[48, 48, 48, 49, 48, 50, 48, 51, 48, 52, 48, 53, 48, 54, 48, 55, 48, 56, 48, 57, 48, 97, 48, 98, 48, 99] }] (by kernel_rfl) (ret_eq (hexc { data := #[48, 48, 48, 49, 48, 50, 48, 51, 48, 52, 48, 53, 48, 54, 48, 55, 48, 56, 48, 57, 48, 97, 48, 98, 48, 99] } (by decide) w) (bytes_eq kS_hex)) ?_
  intro w1 h2
  refine wl_call (v := .string tBK) h2 (by kernel_rfl) enter19 #[by8 11, iN .i64 22] (by kernel_rfl) (ret_eq (timesc 11 22 (by decide) w1) (bytes_eq tB_tim)) ?_
  intro w3 h4
  refine wl_call (v := .string pRK) h4 (by kernel_rfl) enter12 #[.string kSK, .string tBK] (by kernel_rfl) (ret_eq (extractc kSK (by decide) tBK (by decide) w3 (VV.below h4.old VV.big)) (bytes_eq pR_eq)) ?_
  intro w5 h6
  refine wl_val (.string pRK) (by kernel_rfl) (by kernel_rfl) ?_
  refine wl_nil ?_
  refine then_at (F := ⟨(.bool false :: .string pRK :: un :: un :: un :: un :: un :: un :: un :: un :: un :: un :: .string kSK :: .string tBK :: .string pRK :: List.replicate 89 un).toArray, []⟩) (by kernel_rfl) ?_
  refine wp_seq ?_
  -- region 2
  refine wl_region ?_
  refine wl_val (.string pRK) (by kernel_rfl) (by kernel_rfl) ?_
  refine wl_call (v := .string fSK) h6 (by kernel_rfl) enter18 #[.string { data := #[102, 48, 102, 49, 102, 50, 102, 51, 102, 52, 102, 53, 102, 54, 102, 55, 102, 56, 102, 57] }] (by kernel_rfl) (ret_eq (hexc { data := #[102, 48, 102, 49, 102, 50, 102, 51, 102, 52, 102, 53, 102, 54, 102, 55, 102, 56, 102, 57] } (by decide) w5) (bytes_eq fS_hex)) ?_
  intro w7 h8
  refine wl_call (v := .tuple #[.string oKK, iN .i64 0]) h8 (by kernel_rfl) enter15 #[.string pRK, .string fSK, iN .i64 42] (by kernel_rfl) (ret_eq (expandc pRK (by decide) fSK (by decide) 42 (by decide) w7 (VV.below h8.old VV.big)) (tup_eq _ oK_eq)) ?_
  intro w9 h10
  refine wl_val (.tuple #[.string oKK, iN .i64 0]) (by kernel_rfl) (by kernel_rfl) ?_
  refine wl_val (.string oKK) (by kernel_rfl) (by kernel_rfl) ?_
  refine wl_val (iN .i64 0) (by kernel_rfl) (by kernel_rfl) ?_
  refine wl_val (.string oKK) (by kernel_rfl) (by kernel_rfl) ?_
  refine wl_val (iN .i64 0) (by kernel_rfl) (by kernel_rfl) ?_
  refine wl_nil ?_
  refine then_at (F := ⟨(.bool false :: .string pRK :: .string oKK :: iN .i64 0 :: un :: un :: un :: un :: un :: un :: un :: un :: .string kSK :: .string tBK :: .string pRK :: .tuple #[.string oKK, iN .i64 0] :: .string pRK :: .string fSK :: .tuple #[.string oKK, iN .i64 0] :: .string oKK :: iN .i64 0 :: List.replicate 83 un).toArray, []⟩) (by kernel_rfl) ?_
  refine wp_seq ?_
  -- region 3
  refine wl_region ?_
  refine wl_val (.string pRK) (by kernel_rfl) (by kernel_rfl) ?_
  refine wl_call (v := .tuple #[.string ({ data := #[] }), iN .i64 0]) h10 (by kernel_rfl) enter15 #[.string pRK, .string { data := #[] }, iN .i64 0] (by kernel_rfl) (ret_eq (expandc pRK (by decide) { data := #[] } (by decide) 0 (by decide) w9 (VV.below h10.old VV.big)) (tup_eq _ (ex_none _ _))) ?_
  intro w11 h12
  refine wl_val (.tuple #[.string ({ data := #[] }), iN .i64 0]) (by kernel_rfl) (by kernel_rfl) ?_
  refine wl_val (.string ({ data := #[] })) (by kernel_rfl) (by kernel_rfl) ?_
  refine wl_val (iN .i64 0) (by kernel_rfl) (by kernel_rfl) ?_
  refine wl_val (.string ({ data := #[] })) (by kernel_rfl) (by kernel_rfl) ?_
  refine wl_val (iN .i64 0) (by kernel_rfl) (by kernel_rfl) ?_
  refine wl_nil ?_
  refine then_at (F := ⟨(.bool false :: .string pRK :: .string oKK :: iN .i64 0 :: .string ({ data := #[] }) :: iN .i64 0 :: un :: un :: un :: un :: un :: un :: .string kSK :: .string tBK :: .string pRK :: .tuple #[.string oKK, iN .i64 0] :: .string pRK :: .string fSK :: .tuple #[.string oKK, iN .i64 0] :: .string oKK :: iN .i64 0 :: .tuple #[.string ({ data := #[] }), iN .i64 0] :: .string pRK :: .tuple #[.string ({ data := #[] }), iN .i64 0] :: .string ({ data := #[] }) :: iN .i64 0 :: List.replicate 78 un).toArray, []⟩) (by kernel_rfl) ?_
  refine wp_seq ?_
  -- region 4
  refine wl_region ?_
  refine wl_val (.string pRK) (by kernel_rfl) (by kernel_rfl) ?_
  refine wl_call (v := .tuple #[.string ({ data := #[] }), iN .i64 3]) h12 (by kernel_rfl) enter15 #[.string pRK, .string { data := #[] }, iN .i64 8161] (by kernel_rfl) (expandc_big pRK { data := #[] } 8161 (by decide) w11) ?_
  intro w13 h14
  refine wl_val (.tuple #[.string ({ data := #[] }), iN .i64 3]) (by kernel_rfl) (by kernel_rfl) ?_
  refine wl_val (.string ({ data := #[] })) (by kernel_rfl) (by kernel_rfl) ?_
  refine wl_val (iN .i64 3) (by kernel_rfl) (by kernel_rfl) ?_
  refine wl_val (.string ({ data := #[] })) (by kernel_rfl) (by kernel_rfl) ?_
  refine wl_val (iN .i64 3) (by kernel_rfl) (by kernel_rfl) ?_
  refine wl_nil ?_
  refine then_at (F := ⟨(.bool false :: .string pRK :: .string oKK :: iN .i64 0 :: .string ({ data := #[] }) :: iN .i64 0 :: .string ({ data := #[] }) :: iN .i64 3 :: un :: un :: un :: un :: .string kSK :: .string tBK :: .string pRK :: .tuple #[.string oKK, iN .i64 0] :: .string pRK :: .string fSK :: .tuple #[.string oKK, iN .i64 0] :: .string oKK :: iN .i64 0 :: .tuple #[.string ({ data := #[] }), iN .i64 0] :: .string pRK :: .tuple #[.string ({ data := #[] }), iN .i64 0] :: .string ({ data := #[] }) :: iN .i64 0 :: .tuple #[.string ({ data := #[] }), iN .i64 3] :: .string pRK :: .tuple #[.string ({ data := #[] }), iN .i64 3] :: .string ({ data := #[] }) :: iN .i64 3 :: List.replicate 73 un).toArray, []⟩) (by kernel_rfl) ?_
  refine wp_seq ?_
  -- region 5
  refine wl_region ?_
  refine wl_val (.string pRK) (by kernel_rfl) (by kernel_rfl) ?_
  refine wl_call (v := .tuple #[.string ({ data := #[] }), iN .i64 2]) h14 (by kernel_rfl) enter15 #[.string pRK, .string { data := #[] }, .int .i64 (-1)] (by kernel_rfl) (expandc_neg pRK { data := #[] } (-1) (by decide) w13) ?_
  intro w15 h16
  refine wl_val (.tuple #[.string ({ data := #[] }), iN .i64 2]) (by kernel_rfl) (by kernel_rfl) ?_
  refine wl_val (.string ({ data := #[] })) (by kernel_rfl) (by kernel_rfl) ?_
  refine wl_val (iN .i64 2) (by kernel_rfl) (by kernel_rfl) ?_
  refine wl_val (.string ({ data := #[] })) (by kernel_rfl) (by kernel_rfl) ?_
  refine wl_val (iN .i64 2) (by kernel_rfl) (by kernel_rfl) ?_
  refine wl_nil ?_
  refine then_at (F := ⟨(.bool false :: .string pRK :: .string oKK :: iN .i64 0 :: .string ({ data := #[] }) :: iN .i64 0 :: .string ({ data := #[] }) :: iN .i64 3 :: .string ({ data := #[] }) :: iN .i64 2 :: un :: un :: .string kSK :: .string tBK :: .string pRK :: .tuple #[.string oKK, iN .i64 0] :: .string pRK :: .string fSK :: .tuple #[.string oKK, iN .i64 0] :: .string oKK :: iN .i64 0 :: .tuple #[.string ({ data := #[] }), iN .i64 0] :: .string pRK :: .tuple #[.string ({ data := #[] }), iN .i64 0] :: .string ({ data := #[] }) :: iN .i64 0 :: .tuple #[.string ({ data := #[] }), iN .i64 3] :: .string pRK :: .tuple #[.string ({ data := #[] }), iN .i64 3] :: .string ({ data := #[] }) :: iN .i64 3 :: .tuple #[.string ({ data := #[] }), iN .i64 2] :: .string pRK :: .tuple #[.string ({ data := #[] }), iN .i64 2] :: .string ({ data := #[] }) :: iN .i64 2 :: List.replicate 68 un).toArray, []⟩) (by kernel_rfl) ?_
  refine wp_seq ?_
  obtain ⟨X8, hX8, hX8s⟩ : ∃ X : ByteArray, Value.tuple #[.string ⟨(exR pRK { data := #[] } 8160).toArray⟩, iN .i64 0] = .tuple #[.string X, iN .i64 0] ∧ X.size = 8160 := ⟨_, rfl, by rw [sz_mk, exR_len]⟩
  -- region 6
  refine wl_region ?_
  refine wl_val (.string pRK) (by kernel_rfl) (by kernel_rfl) ?_
  refine wl_call (v := .tuple #[.string X8, iN .i64 0]) h16 (by kernel_rfl) enter15 #[.string pRK, .string { data := #[] }, iN .i64 8160] (by kernel_rfl) (ret_eq (expandc pRK (by decide) { data := #[] } (by decide) 8160 (by decide) w15 (VV.below h16.old VV.big)) hX8) ?_
  intro w17 h18
  refine wl_val (.tuple #[.string X8, iN .i64 0]) (by kernel_rfl) (by kernel_rfl) ?_
  refine wl_val (.string X8) (by kernel_rfl) (by kernel_rfl) ?_
  refine wl_val (iN .i64 0) (by kernel_rfl) (by kernel_rfl) ?_
  refine wl_val (.string X8) (by kernel_rfl) (by kernel_rfl) ?_
  refine wl_val (iN .i64 0) (by kernel_rfl) (by kernel_rfl) ?_
  refine wl_nil ?_
  refine then_at (F := ⟨(.bool false :: .string pRK :: .string oKK :: iN .i64 0 :: .string ({ data := #[] }) :: iN .i64 0 :: .string ({ data := #[] }) :: iN .i64 3 :: .string ({ data := #[] }) :: iN .i64 2 :: .string X8 :: iN .i64 0 :: .string kSK :: .string tBK :: .string pRK :: .tuple #[.string oKK, iN .i64 0] :: .string pRK :: .string fSK :: .tuple #[.string oKK, iN .i64 0] :: .string oKK :: iN .i64 0 :: .tuple #[.string ({ data := #[] }), iN .i64 0] :: .string pRK :: .tuple #[.string ({ data := #[] }), iN .i64 0] :: .string ({ data := #[] }) :: iN .i64 0 :: .tuple #[.string ({ data := #[] }), iN .i64 3] :: .string pRK :: .tuple #[.string ({ data := #[] }), iN .i64 3] :: .string ({ data := #[] }) :: iN .i64 3 :: .tuple #[.string ({ data := #[] }), iN .i64 2] :: .string pRK :: .tuple #[.string ({ data := #[] }), iN .i64 2] :: .string ({ data := #[] }) :: iN .i64 2 :: .tuple #[.string X8, iN .i64 0] :: .string pRK :: .tuple #[.string X8, iN .i64 0] :: .string X8 :: iN .i64 0 :: List.replicate 63 un).toArray, []⟩) (by kernel_rfl) ?_
  refine wp_seq ?_
  -- region 7
  refine wl_region ?_
  refine wl_val (.bool true) (by kernel_rfl) (by kernel_rfl) ?_
  refine wl_call (v := .bool true) h18 (by kernel_rfl) enter14 #[] (by kernel_rfl) (worksc w17 (VV.below h18.old VV.big)) ?_
  intro w19 h20
  refine wl_val (.bool true) (by kernel_rfl) (by kernel_rfl) ?_
  refine wl_val (.bool true) (by kernel_rfl) (by kernel_rfl) ?_
  refine wl_call (v := .string t20K) h20 (by kernel_rfl) enter19 #[by8 11, iN .i64 20] (by kernel_rfl) (ret_eq (timesc 11 20 (by decide) w19) (bytes_eq t20_tim)) ?_
  intro w21 h22
  refine wl_mks (n := 1) (m := 1) (c := psc ([{ data := #[72, 105, 32, 84, 104, 101, 114, 101] }])) h22 9 (by kernel_rfl) (run_bs1 (u := { data := #[72, 105, 32, 84, 104, 101, 114, 101] }) (by kernel_rfl)) ?_
  intro q23 w24 h25
  refine wl_call (v := .string h1K) h25 (by kernel_rfl) enter10 #[.string t20K, .slice (some ⟨q23, 0, none⟩) 1 1] (by kernel_rfl) (ret_eq (hmacc t20K (by decide) ([{ data := #[72, 105, 32, 84, 104, 101, 114, 101] }]) 1 rfl (by decide) (some ⟨q23, 0, none⟩) 1 w24 (VV.below h25.old VV.big) (parts_ofc (h25.get 0 rfl)) (fun h => by cases h) (by decide +kernel)) (bytes_eq h1_eq)) ?_
  intro w26 h27
  refine wl_call (v := .string h1K) h27 (by kernel_rfl) enter18 #[.string { data := #[98, 48, 51, 52, 52, 99, 54, 49, 100, 56, 100, 98, 51, 56, 53, 51, 53, 99, 97, 56, 97, 102, 99, 101, 97, 102, 48, 98, 102, 49, 50, 98, 56, 56, 49, 100, 99, 50, 48, 48, 99, 57, 56, 51, 51, 100, 97, 55, 50, 54, 101, 57, 51, 55, 54, 99, 50, 101, 51, 50, 99, 102, 102, 55] }] (by kernel_rfl) (ret_eq (hexc { data := #[98, 48, 51, 52, 52, 99, 54, 49, 100, 56, 100, 98, 51, 56, 53, 51, 53, 99, 97, 56, 97, 102, 99, 101, 97, 102, 48, 98, 102, 49, 50, 98, 56, 56, 49, 100, 99, 50, 48, 48, 99, 57, 56, 51, 51, 100, 97, 55, 50, 54, 101, 57, 51, 55, 54, 99, 50, 101, 51, 50, 99, 102, 102, 55] } (by decide) w26) (bytes_eq h1_hex)) ?_
  intro w28 h29
  refine wl_val (.bool true) (by kernel_rfl) (run_eqs (s := h1K) (t := h1K) (by kernel_rfl) (by kernel_rfl) true (decide_eq_true rfl)) ?_
  refine wl_val (.bool true) (by kernel_rfl) (by kernel_rfl) ?_
  refine wl_val (.bool true) (by kernel_rfl) (by kernel_rfl) ?_
  refine wl_call (v := .string t131K) h29 (by kernel_rfl) enter19 #[by8 170, iN .i64 131] (by kernel_rfl) (ret_eq (timesc 170 131 (by decide) w28) (bytes_eq t131_tim)) ?_
  intro w30 h31
  refine wl_mks (n := 1) (m := 1) (c := psc ([{ data := #[84, 101, 115, 116, 32, 85, 115, 105, 110, 103, 32, 76, 97, 114, 103, 101, 114, 32, 84, 104, 97, 110, 32, 66, 108, 111, 99, 107, 45, 83, 105, 122, 101, 32, 75, 101, 121, 32, 45, 32, 72, 97, 115, 104, 32, 75, 101, 121, 32, 70, 105, 114, 115, 116] }])) h31 9 (by kernel_rfl) (run_bs1 (u := { data := #[84, 101, 115, 116, 32, 85, 115, 105, 110, 103, 32, 76, 97, 114, 103, 101, 114, 32, 84, 104, 97, 110, 32, 66, 108, 111, 99, 107, 45, 83, 105, 122, 101, 32, 75, 101, 121, 32, 45, 32, 72, 97, 115, 104, 32, 75, 101, 121, 32, 70, 105, 114, 115, 116] }) (by kernel_rfl)) ?_
  intro q32 w33 h34
  refine wl_call (v := .string h2K) h34 (by kernel_rfl) enter10 #[.string t131K, .slice (some ⟨q32, 0, none⟩) 1 1] (by kernel_rfl) (ret_eq (hmacc t131K (by decide) ([{ data := #[84, 101, 115, 116, 32, 85, 115, 105, 110, 103, 32, 76, 97, 114, 103, 101, 114, 32, 84, 104, 97, 110, 32, 66, 108, 111, 99, 107, 45, 83, 105, 122, 101, 32, 75, 101, 121, 32, 45, 32, 72, 97, 115, 104, 32, 75, 101, 121, 32, 70, 105, 114, 115, 116] }]) 1 rfl (by decide) (some ⟨q32, 0, none⟩) 1 w33 (VV.below h34.old VV.big) (parts_ofc (h34.get 0 rfl)) (fun h => by cases h) (by decide +kernel)) (bytes_eq h2_eq)) ?_
  intro w35 h36
  refine wl_call (v := .string h2K) h36 (by kernel_rfl) enter18 #[.string { data := #[54, 48, 101, 52, 51, 49, 53, 57, 49, 101, 101, 48, 98, 54, 55, 102, 48, 100, 56, 97, 50, 54, 97, 97, 99, 98, 102, 53, 98, 55, 55, 102, 56, 101, 48, 98, 99, 54, 50, 49, 51, 55, 50, 56, 99, 53, 49, 52, 48, 53, 52, 54, 48, 52, 48, 102, 48, 101, 101, 51, 55, 102, 53, 52] }] (by kernel_rfl) (ret_eq (hexc { data := #[54, 48, 101, 52, 51, 49, 53, 57, 49, 101, 101, 48, 98, 54, 55, 102, 48, 100, 56, 97, 50, 54, 97, 97, 99, 98, 102, 53, 98, 55, 55, 102, 56, 101, 48, 98, 99, 54, 50, 49, 51, 55, 50, 56, 99, 53, 49, 52, 48, 53, 52, 54, 48, 52, 48, 102, 48, 101, 101, 51, 55, 102, 53, 52] } (by decide) w35) (bytes_eq h2_hex)) ?_
  intro w37 h38
  refine wl_val (.bool true) (by kernel_rfl) (run_eqs (s := h2K) (t := h2K) (by kernel_rfl) (by kernel_rfl) true (decide_eq_true rfl)) ?_
  refine wl_val (.bool true) (by kernel_rfl) (by kernel_rfl) ?_
  refine wl_val (.bool true) (by kernel_rfl) (by kernel_rfl) ?_
  refine wl_val (.string pRK) (by kernel_rfl) (by kernel_rfl) ?_
  refine wl_call (v := .string pRK) h38 (by kernel_rfl) enter18 #[.string { data := #[48, 55, 55, 55, 48, 57, 51, 54, 50, 99, 50, 101, 51, 50, 100, 102, 48, 100, 100, 99, 51, 102, 48, 100, 99, 52, 55, 98, 98, 97, 54, 51, 57, 48, 98, 54, 99, 55, 51, 98, 98, 53, 48, 102, 57, 99, 51, 49, 50, 50, 101, 99, 56, 52, 52, 97, 100, 55, 99, 50, 98, 51, 101, 53] }] (by kernel_rfl) (ret_eq (hexc { data := #[48, 55, 55, 55, 48, 57, 51, 54, 50, 99, 50, 101, 51, 50, 100, 102, 48, 100, 100, 99, 51, 102, 48, 100, 99, 52, 55, 98, 98, 97, 54, 51, 57, 48, 98, 54, 99, 55, 51, 98, 98, 53, 48, 102, 57, 99, 51, 49, 50, 50, 101, 99, 56, 52, 52, 97, 100, 55, 99, 50, 98, 51, 101, 53] } (by decide) w37) (bytes_eq pR_hex)) ?_
  intro w39 h40
  refine wl_val (.bool true) (by kernel_rfl) (run_eqs (s := pRK) (t := pRK) (by kernel_rfl) (by kernel_rfl) true (decide_eq_true rfl)) ?_
  refine wl_val (.bool true) (by kernel_rfl) (by kernel_rfl) ?_
  refine wl_val (.bool true) (by kernel_rfl) (by kernel_rfl) ?_
  refine wl_val (iN .i64 0) (by kernel_rfl) (by kernel_rfl) ?_
  refine wl_val (.bool true) (by kernel_rfl) (run_eqi (k := .i64) (a := 0) (b := 0) (by kernel_rfl) (by kernel_rfl) true (by decide)) ?_
  refine wl_val (.bool true) (by kernel_rfl) (by kernel_rfl) ?_
  refine wl_val (.bool true) (by kernel_rfl) (by kernel_rfl) ?_
  refine wl_val (.string oKK) (by kernel_rfl) (by kernel_rfl) ?_
  refine wl_call (v := .string oKK) h40 (by kernel_rfl) enter18 #[.string ({ data := #[51, 99, 98, 50, 53, 102, 50, 53, 102, 97, 97, 99, 100, 53, 55, 97, 57, 48, 52, 51, 52, 102, 54, 52, 100, 48, 51, 54, 50, 102, 50, 97, 50, 100, 50, 100, 48, 97, 57, 48, 99, 102, 49, 97, 53, 97, 52, 99, 53, 100, 98, 48, 50, 100, 53, 54, 101, 99, 99, 52, 99, 53, 98, 102, 51, 52, 48, 48, 55, 50, 48, 56, 100, 53, 98, 56, 56, 55, 49, 56, 53, 56, 54, 53] })] (by kernel_rfl) (ret_eq (hexc { data := #[51, 99, 98, 50, 53, 102, 50, 53, 102, 97, 97, 99, 100, 53, 55, 97, 57, 48, 52, 51, 52, 102, 54, 52, 100, 48, 51, 54, 50, 102, 50, 97, 50, 100, 50, 100, 48, 97, 57, 48, 99, 102, 49, 97, 53, 97, 52, 99, 53, 100, 98, 48, 50, 100, 53, 54, 101, 99, 99, 52, 99, 53, 98, 102, 51, 52, 48, 48, 55, 50, 48, 56, 100, 53, 98, 56, 56, 55, 49, 56, 53, 56, 54, 53] } (by decide) w39) (bytes_eq oK_hex)) ?_
  intro w41 h42
  refine wl_val (.bool true) (by kernel_rfl) (run_eqs (s := oKK) (t := oKK) (by kernel_rfl) (by kernel_rfl) true (decide_eq_true rfl)) ?_
  refine wl_val (.bool true) (by kernel_rfl) (by kernel_rfl) ?_
  refine wl_val (.bool true) (by kernel_rfl) (by kernel_rfl) ?_
  refine wl_val (iN .i64 0) (by kernel_rfl) (by kernel_rfl) ?_
  refine wl_val (.bool true) (by kernel_rfl) (run_eqi (k := .i64) (a := 0) (b := 0) (by kernel_rfl) (by kernel_rfl) true (by decide)) ?_
  refine wl_val (.bool true) (by kernel_rfl) (by kernel_rfl) ?_
  refine wl_val (.bool true) (by kernel_rfl) (by kernel_rfl) ?_
  refine wl_val (.string ({ data := #[] })) (by kernel_rfl) (by kernel_rfl) ?_
  refine wl_val (.bool true) (by kernel_rfl) (run_eqs (s := { data := #[] }) (t := { data := #[] }) (by kernel_rfl) (by kernel_rfl) true (decide_eq_true rfl)) ?_
  refine wl_val (.bool true) (by kernel_rfl) (by kernel_rfl) ?_
  refine wl_val (.bool true) (by kernel_rfl) (by kernel_rfl) ?_
  refine wl_val (iN .i64 3) (by kernel_rfl) (by kernel_rfl) ?_
  refine wl_val (.bool true) (by kernel_rfl) (run_eqi (k := .i64) (a := 3) (b := 3) (by kernel_rfl) (by kernel_rfl) true (by decide)) ?_
  refine wl_val (.bool true) (by kernel_rfl) (by kernel_rfl) ?_
  refine wl_val (.bool true) (by kernel_rfl) (by kernel_rfl) ?_
  refine wl_val (iN .i64 2) (by kernel_rfl) (by kernel_rfl) ?_
  refine wl_val (.bool true) (by kernel_rfl) (run_eqi (k := .i64) (a := 2) (b := 2) (by kernel_rfl) (by kernel_rfl) true (by decide)) ?_
  refine wl_val (.bool true) (by kernel_rfl) (by kernel_rfl) ?_
  refine wl_val (.bool true) (by kernel_rfl) (by kernel_rfl) ?_
  refine wl_val (iN .i64 0) (by kernel_rfl) (by kernel_rfl) ?_
  refine wl_val (.bool true) (by kernel_rfl) (run_eqi (k := .i64) (a := 0) (b := 0) (by kernel_rfl) (by kernel_rfl) true (by decide)) ?_
  refine wl_val (.bool true) (by kernel_rfl) (by kernel_rfl) ?_
  refine wl_val (.bool true) (by kernel_rfl) (by kernel_rfl) ?_
  refine wl_val (.string X8) (by kernel_rfl) (by kernel_rfl) ?_
  refine wl_val (iN .i64 X8.size) (by kernel_rfl) (run_len (s := X8) (by kernel_rfl)) ?_
  refine wl_val (.bool true) (by kernel_rfl) (run_eqi (k := .i64) (a := X8.size) (b := 8160) (by kernel_rfl) (by kernel_rfl) true (decide_eq_true hX8s)) ?_
  refine wl_val (.bool true) (by kernel_rfl) (by kernel_rfl) ?_
  refine wl_val (.bool true) (by kernel_rfl) (by kernel_rfl) ?_
  refine wl_call (v := .bool true) h42 (by kernel_rfl) enter17 #[.string { data := #[] }, .string { data := #[] }] (by kernel_rfl) (ret_eq (equalc { data := #[] } { data := #[] } (by decide) (by decide) w41) (congrArg Value.bool (by decide +kernel))) ?_
  intro w43 h44
  refine wl_val (.bool true) (by kernel_rfl) (by kernel_rfl) ?_
  refine wl_val (.bool true) (by kernel_rfl) (by kernel_rfl) ?_
  refine wl_call (v := .bool false) h44 (by kernel_rfl) enter17 #[.string { data := #[97] }, .string { data := #[] }] (by kernel_rfl) (ret_eq (equalc { data := #[97] } { data := #[] } (by decide) (by decide) w43) (congrArg Value.bool (by decide +kernel))) ?_
  intro w45 h46
  refine wl_val (.bool true) (by kernel_rfl) (by kernel_rfl) ?_
  refine wl_val (.bool true) (by kernel_rfl) (by kernel_rfl) ?_
  refine wl_val (.bool true) (by kernel_rfl) (by kernel_rfl) ?_
  refine wl_nil ?_
  refine then_at (F := ⟨(.bool true :: .string pRK :: .string oKK :: iN .i64 0 :: .string ({ data := #[] }) :: iN .i64 0 :: .string ({ data := #[] }) :: iN .i64 3 :: .string ({ data := #[] }) :: iN .i64 2 :: .string X8 :: iN .i64 0 :: .string kSK :: .string tBK :: .string pRK :: .tuple #[.string oKK, iN .i64 0] :: .string pRK :: .string fSK :: .tuple #[.string oKK, iN .i64 0] :: .string oKK :: iN .i64 0 :: .tuple #[.string ({ data := #[] }), iN .i64 0] :: .string pRK :: .tuple #[.string ({ data := #[] }), iN .i64 0] :: .string ({ data := #[] }) :: iN .i64 0 :: .tuple #[.string ({ data := #[] }), iN .i64 3] :: .string pRK :: .tuple #[.string ({ data := #[] }), iN .i64 3] :: .string ({ data := #[] }) :: iN .i64 3 :: .tuple #[.string ({ data := #[] }), iN .i64 2] :: .string pRK :: .tuple #[.string ({ data := #[] }), iN .i64 2] :: .string ({ data := #[] }) :: iN .i64 2 :: .tuple #[.string X8, iN .i64 0] :: .string pRK :: .tuple #[.string X8, iN .i64 0] :: .string X8 :: iN .i64 0 :: .bool true :: .bool true :: .bool true :: .bool true :: .string t20K :: .slice (some ⟨q23, 0, none⟩) 1 1 :: .string h1K :: .string h1K :: .bool true :: .bool true :: .bool true :: .string t131K :: .slice (some ⟨q32, 0, none⟩) 1 1 :: .string h2K :: .string h2K :: .bool true :: .bool true :: .bool true :: .string pRK :: .string pRK :: .bool true :: .bool true :: .bool true :: iN .i64 0 :: .bool true :: .bool true :: .bool true :: .string oKK :: .string oKK :: .bool true :: .bool true :: .bool true :: iN .i64 0 :: .bool true :: .bool true :: .bool true :: .string ({ data := #[] }) :: .bool true :: .bool true :: .bool true :: iN .i64 3 :: .bool true :: .bool true :: .bool true :: iN .i64 2 :: .bool true :: .bool true :: .bool true :: iN .i64 0 :: .bool true :: .bool true :: .bool true :: .string X8 :: iN .i64 X8.size :: .bool true :: .bool true :: .bool true :: .bool true :: .bool true :: .bool true :: .bool false :: .bool true :: .bool true :: List.replicate 0 un).toArray, []⟩) (by kernel_rfl) ?_
  refine wp_ret ?_
  repeat first | refine then_ret ?_ | refine block_ret ?_
  exact bodyPost_ret (v := .bool true) (by kernel_rfl) rfl ⟨rfl, h46.old⟩
end Go.Proofs.YtmlldbkhphngeaaDoor
