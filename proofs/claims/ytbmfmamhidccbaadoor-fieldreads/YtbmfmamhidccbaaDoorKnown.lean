/-
  FieldKnown: the walk.
-/
import Derived.Test.YtbmfmamhidccbaaDoorEnds
namespace Go.Proofs.YtbmfmamhidccbaaDoor
open Go.RowKit Num

theorem Of_yes (s : ByteArray) {n : Nat} (h : ofP s = some n) (w : World) (V : Vars w) :
    Calls Tryd.prog 11 #[.string s] w fun e w' => e = .returned (.tuple #[arr n, .bool true]) ∧ Below w.heap.size w w' := by
  have h1 := Of_any s w V
  rw [h] at h1
  exact h1
theorem Of_no (s : ByteArray) (h : ofP s = none) (w : World) (V : Vars w) :
    Calls Tryd.prog 11 #[.string s] w fun e w' => e = .returned (.tuple #[arr 0, .bool false]) ∧ Below w.heap.size w w' := by
  have h1 := Of_any s w V
  rw [h] at h1
  exact h1

set_option maxRecDepth 100000 in
set_option maxHeartbeats 4000000 in
theorem FieldKnown_any (w : World) (V : Vars w) :
    Calls Tryd.prog 10 #[] w fun e w' => e = .returned (.bool true) ∧ Below w.heap.size w w' := by
  have VV := hide V
  have H0 := HA.start w
  clear V
  go_enter Tryd.func10, Tryd.ntmps10
  refine wp_seq ?_
  -- region 0
  refine wl_region ?_
  refine wl_val (.bool false) (by kernel_rfl) (by kernel_rfl) ?_
  refine wl_nil ?_
  refine then_at (F := ⟨(.bool false :: List.replicate 131 un).toArray, []⟩) (by kernel_rfl) ?_
  refine wp_seq ?_
  -- region 1
  refine wl_region ?_
  refine wl_call (v := .string ⟨(endsL 237 127).toArray⟩) H0 (by kernel_rfl) enter35 #[iN .u8 237, iN .u8 127] (by kernel_rfl) (ends_any 237 127 w) ?_
  intro w1 h2
  refine wl_call (v := .tuple #[arr 0, .bool false]) h2 (by kernel_rfl) enter11 #[.string ⟨(endsL 237 127).toArray⟩] (by kernel_rfl) (Of_no (⟨(endsL 237 127).toArray⟩) (by decide +kernel) w1 (VV.out.below h2.old VV.out.big)) ?_
  intro w3 h4
  refine wl_val (.tuple #[arr 0, .bool false]) (by kernel_rfl) (by kernel_rfl) ?_
  refine wl_val (arr 0) (by kernel_rfl) (by kernel_rfl) ?_
  refine wl_val (.bool false) (by kernel_rfl) (by kernel_rfl) ?_
  refine wl_make h4 26 (by kernel_rfl) run_alloc26 ?_
  intro q5 w6 h7
  refine wl_fill (c' := el 0) h7 0 rfl (by kernel_rfl) (by kernel_rfl) (by kernel_rfl) rfl info26 (one_el _) ?_
  intro w8 (h9 : HA w [(q5, 26, el 0)] w8)
  refine wl_val (.bool false) (by kernel_rfl) (by kernel_rfl) ?_
  refine wl_nil ?_
  refine then_at (F := ⟨(.bool false :: pt q5 :: .bool false :: un :: un :: un :: un :: un :: un :: un :: un :: un :: un :: un :: un :: un :: un :: .tuple #[arr 0, .bool false] :: .string ⟨(endsL 237 127).toArray⟩ :: .tuple #[arr 0, .bool false] :: arr 0 :: .bool false :: List.replicate 110 un).toArray, []⟩) (by kernel_rfl) ?_
  refine wp_seq ?_
  -- region 2
  refine wl_region ?_
  refine wl_call (v := .string ⟨(endsL 236 127).toArray⟩) h9 (by kernel_rfl) enter35 #[iN .u8 236, iN .u8 127] (by kernel_rfl) (ends_any 236 127 w8) ?_
  intro w10 h11
  refine wl_call (v := .tuple #[arr (negP 1), .bool true]) h11 (by kernel_rfl) enter11 #[.string ⟨(endsL 236 127).toArray⟩] (by kernel_rfl) (Of_yes (⟨(endsL 236 127).toArray⟩) (by decide +kernel) w10 (VV.out.below h11.old VV.out.big)) ?_
  intro w12 h13
  refine wl_val (.tuple #[arr (negP 1), .bool true]) (by kernel_rfl) (by kernel_rfl) ?_
  refine wl_val (arr (negP 1)) (by kernel_rfl) (by kernel_rfl) ?_
  refine wl_val (.bool true) (by kernel_rfl) (by kernel_rfl) ?_
  refine wl_make h13 26 (by kernel_rfl) run_alloc26 ?_
  intro q14 w15 h16
  refine wl_fill (c' := el (negP 1)) h16 0 rfl (by kernel_rfl) (by kernel_rfl) (by kernel_rfl) rfl info26 (one_el _) ?_
  intro w17 (h18 : HA w [(q14, 26, el (negP 1)), (q5, 26, el 0)] w17)
  refine wl_val (.bool true) (by kernel_rfl) (by kernel_rfl) ?_
  refine wl_nil ?_
  refine then_at (F := ⟨(.bool false :: pt q5 :: .bool false :: pt q14 :: .bool true :: un :: un :: un :: un :: un :: un :: un :: un :: un :: un :: un :: un :: .tuple #[arr 0, .bool false] :: .string ⟨(endsL 237 127).toArray⟩ :: .tuple #[arr 0, .bool false] :: arr 0 :: .bool false :: .tuple #[arr (negP 1), .bool true] :: .string ⟨(endsL 236 127).toArray⟩ :: .tuple #[arr (negP 1), .bool true] :: arr (negP 1) :: .bool true :: List.replicate 105 un).toArray, []⟩) (by kernel_rfl) ?_
  refine wp_seq ?_
  -- region 3
  refine wl_region ?_
  refine wl_mkslice (n := 31) h18 5 (by kernel_rfl) (run_mk 31 (by decide) (by kernel_rfl) (by kernel_rfl)) ?_
  intro q19 w20 h21
  refine wl_val (.string (zs 31)) (by kernel_rfl) (run_noughts 31 (by kernel_rfl) (h21.get 0 rfl)) ?_
  refine wl_call (v := .tuple #[arr 0, .bool false]) h21 (by kernel_rfl) enter11 #[.string (zs 31)] (by kernel_rfl) (Of_no (zs 31) (by decide +kernel) w20 (VV.out.below h21.old VV.out.big)) ?_
  intro w22 h23
  refine wl_val (.tuple #[arr 0, .bool false]) (by kernel_rfl) (by kernel_rfl) ?_
  refine wl_val (arr 0) (by kernel_rfl) (by kernel_rfl) ?_
  refine wl_val (.bool false) (by kernel_rfl) (by kernel_rfl) ?_
  refine wl_make h23 26 (by kernel_rfl) run_alloc26 ?_
  intro q24 w25 h26
  refine wl_fill (c' := el 0) h26 0 rfl (by kernel_rfl) (by kernel_rfl) (by kernel_rfl) rfl info26 (one_el _) ?_
  intro w27 (h28 : HA w [(q24, 26, el 0), (q19, 5, zr 31), (q14, 26, el (negP 1)), (q5, 26, el 0)] w27)
  refine wl_val (.bool false) (by kernel_rfl) (by kernel_rfl) ?_
  refine wl_nil ?_
  refine then_at (F := ⟨(.bool false :: pt q5 :: .bool false :: pt q14 :: .bool true :: pt q24 :: .bool false :: un :: un :: un :: un :: un :: un :: un :: un :: un :: un :: .tuple #[arr 0, .bool false] :: .string ⟨(endsL 237 127).toArray⟩ :: .tuple #[arr 0, .bool false] :: arr 0 :: .bool false :: .tuple #[arr (negP 1), .bool true] :: .string ⟨(endsL 236 127).toArray⟩ :: .tuple #[arr (negP 1), .bool true] :: arr (negP 1) :: .bool true :: .tuple #[arr 0, .bool false] :: .slice (some ⟨q19, 0, none⟩) 31 31 :: .string (zs 31) :: .tuple #[arr 0, .bool false] :: arr 0 :: .bool false :: List.replicate 99 un).toArray, []⟩) (by kernel_rfl) ?_
  refine wp_seq ?_
  -- region 4
  refine wl_region ?_
  refine wl_call (v := .string ⟨(endsL 236 255).toArray⟩) h28 (by kernel_rfl) enter35 #[iN .u8 236, iN .u8 255] (by kernel_rfl) (ends_any 236 255 w27) ?_
  intro w29 h30
  refine wl_call (v := .tuple #[arr 0, .bool false]) h30 (by kernel_rfl) enter11 #[.string ⟨(endsL 236 255).toArray⟩] (by kernel_rfl) (Of_no (⟨(endsL 236 255).toArray⟩) (by decide +kernel) w29 (VV.out.below h30.old VV.out.big)) ?_
  intro w31 h32
  refine wl_val (.tuple #[arr 0, .bool false]) (by kernel_rfl) (by kernel_rfl) ?_
  refine wl_val (arr 0) (by kernel_rfl) (by kernel_rfl) ?_
  refine wl_val (.bool false) (by kernel_rfl) (by kernel_rfl) ?_
  refine wl_make h32 26 (by kernel_rfl) run_alloc26 ?_
  intro q33 w34 h35
  refine wl_fill (c' := el 0) h35 0 rfl (by kernel_rfl) (by kernel_rfl) (by kernel_rfl) rfl info26 (one_el _) ?_
  intro w36 (h37 : HA w [(q33, 26, el 0), (q24, 26, el 0), (q19, 5, zr 31), (q14, 26, el (negP 1)), (q5, 26, el 0)] w36)
  refine wl_val (.bool false) (by kernel_rfl) (by kernel_rfl) ?_
  refine wl_nil ?_
  refine then_at (F := ⟨(.bool false :: pt q5 :: .bool false :: pt q14 :: .bool true :: pt q24 :: .bool false :: pt q33 :: .bool false :: un :: un :: un :: un :: un :: un :: un :: un :: .tuple #[arr 0, .bool false] :: .string ⟨(endsL 237 127).toArray⟩ :: .tuple #[arr 0, .bool false] :: arr 0 :: .bool false :: .tuple #[arr (negP 1), .bool true] :: .string ⟨(endsL 236 127).toArray⟩ :: .tuple #[arr (negP 1), .bool true] :: arr (negP 1) :: .bool true :: .tuple #[arr 0, .bool false] :: .slice (some ⟨q19, 0, none⟩) 31 31 :: .string (zs 31) :: .tuple #[arr 0, .bool false] :: arr 0 :: .bool false :: .tuple #[arr 0, .bool false] :: .string ⟨(endsL 236 255).toArray⟩ :: .tuple #[arr 0, .bool false] :: arr 0 :: .bool false :: List.replicate 94 un).toArray, []⟩) (by kernel_rfl) ?_
  refine wp_seq ?_
  -- region 5
  refine wl_region ?_
  refine wl_call (v := arr 1) h37 (by kernel_rfl) enter17 #[iN .u32 1] (by kernel_rfl) (Small_any 1 (by decide) w36) ?_
  intro w38 h39
  refine wl_call (v := arr (negP 1)) h39 (by kernel_rfl) enter28 #[arr 1] (by kernel_rfl) (Neg_any 1 (by decide) w38 (VV.out.below h39.old VV.out.big)) ?_
  intro w40 h41
  refine wl_make h41 26 (by kernel_rfl) run_alloc26 ?_
  intro q42 w43 h44
  refine wl_fill (c' := el (negP 1)) h44 0 rfl (by kernel_rfl) (by kernel_rfl) (by kernel_rfl) rfl info26 (one_el _) ?_
  intro w45 (h46 : HA w [(q42, 26, el (negP 1)), (q33, 26, el 0), (q24, 26, el 0), (q19, 5, zr 31), (q14, 26, el (negP 1)), (q5, 26, el 0)] w45)
  refine wl_nil ?_
  refine then_at (F := ⟨(.bool false :: pt q5 :: .bool false :: pt q14 :: .bool true :: pt q24 :: .bool false :: pt q33 :: .bool false :: pt q42 :: un :: un :: un :: un :: un :: un :: un :: .tuple #[arr 0, .bool false] :: .string ⟨(endsL 237 127).toArray⟩ :: .tuple #[arr 0, .bool false] :: arr 0 :: .bool false :: .tuple #[arr (negP 1), .bool true] :: .string ⟨(endsL 236 127).toArray⟩ :: .tuple #[arr (negP 1), .bool true] :: arr (negP 1) :: .bool true :: .tuple #[arr 0, .bool false] :: .slice (some ⟨q19, 0, none⟩) 31 31 :: .string (zs 31) :: .tuple #[arr 0, .bool false] :: arr 0 :: .bool false :: .tuple #[arr 0, .bool false] :: .string ⟨(endsL 236 255).toArray⟩ :: .tuple #[arr 0, .bool false] :: arr 0 :: .bool false :: arr 1 :: arr (negP 1) :: List.replicate 92 un).toArray, []⟩) (by kernel_rfl) ?_
  refine wp_seq ?_
  -- region 6
  refine wl_region ?_
  refine wl_call (v := arr 0) h46 (by kernel_rfl) enter17 #[iN .u32 0] (by kernel_rfl) (Small_any 0 (by decide) w45) ?_
  intro w47 h48
  refine wl_call (v := .tuple #[arr 0, .bool true]) h48 (by kernel_rfl) enter31 #[arr 0] (by kernel_rfl) (Root_yes rfl (by decide) root_zero w47 (VV.out.below h48.old VV.out.big)) ?_
  intro w49 h50
  refine wl_val (.tuple #[arr 0, .bool true]) (by kernel_rfl) (by kernel_rfl) ?_
  refine wl_val (arr 0) (by kernel_rfl) (by kernel_rfl) ?_
  refine wl_val (.bool true) (by kernel_rfl) (by kernel_rfl) ?_
  refine wl_make h50 26 (by kernel_rfl) run_alloc26 ?_
  intro q51 w52 h53
  refine wl_fill (c' := el 0) h53 0 rfl (by kernel_rfl) (by kernel_rfl) (by kernel_rfl) rfl info26 (one_el _) ?_
  intro w54 (h55 : HA w [(q51, 26, el 0), (q42, 26, el (negP 1)), (q33, 26, el 0), (q24, 26, el 0), (q19, 5, zr 31), (q14, 26, el (negP 1)), (q5, 26, el 0)] w54)
  refine wl_val (.bool true) (by kernel_rfl) (by kernel_rfl) ?_
  refine wl_nil ?_
  refine then_at (F := ⟨(.bool false :: pt q5 :: .bool false :: pt q14 :: .bool true :: pt q24 :: .bool false :: pt q33 :: .bool false :: pt q42 :: pt q51 :: .bool true :: un :: un :: un :: un :: un :: .tuple #[arr 0, .bool false] :: .string ⟨(endsL 237 127).toArray⟩ :: .tuple #[arr 0, .bool false] :: arr 0 :: .bool false :: .tuple #[arr (negP 1), .bool true] :: .string ⟨(endsL 236 127).toArray⟩ :: .tuple #[arr (negP 1), .bool true] :: arr (negP 1) :: .bool true :: .tuple #[arr 0, .bool false] :: .slice (some ⟨q19, 0, none⟩) 31 31 :: .string (zs 31) :: .tuple #[arr 0, .bool false] :: arr 0 :: .bool false :: .tuple #[arr 0, .bool false] :: .string ⟨(endsL 236 255).toArray⟩ :: .tuple #[arr 0, .bool false] :: arr 0 :: .bool false :: arr 1 :: arr (negP 1) :: .tuple #[arr 0, .bool true] :: arr 0 :: .tuple #[arr 0, .bool true] :: arr 0 :: .bool true :: List.replicate 87 un).toArray, []⟩) (by kernel_rfl) ?_
  refine wp_seq ?_
  -- region 7
  refine wl_region ?_
  refine wl_call (v := arr 9) h55 (by kernel_rfl) enter17 #[iN .u32 9] (by kernel_rfl) (Small_any 9 (by decide) w54) ?_
  intro w56 h57
  refine wl_call (v := .tuple #[arr (negP 3), .bool true]) h57 (by kernel_rfl) enter31 #[arr 9] (by kernel_rfl) (Root_yes rfl (by decide) root9 w56 (VV.out.below h57.old VV.out.big)) ?_
  intro w58 h59
  refine wl_val (.tuple #[arr (negP 3), .bool true]) (by kernel_rfl) (by kernel_rfl) ?_
  refine wl_val (arr (negP 3)) (by kernel_rfl) (by kernel_rfl) ?_
  refine wl_val (.bool true) (by kernel_rfl) (by kernel_rfl) ?_
  refine wl_make h59 26 (by kernel_rfl) run_alloc26 ?_
  intro q60 w61 h62
  refine wl_fill (c' := el (negP 3)) h62 0 rfl (by kernel_rfl) (by kernel_rfl) (by kernel_rfl) rfl info26 (one_el _) ?_
  intro w63 (h64 : HA w [(q60, 26, el (negP 3)), (q51, 26, el 0), (q42, 26, el (negP 1)), (q33, 26, el 0), (q24, 26, el 0), (q19, 5, zr 31), (q14, 26, el (negP 1)), (q5, 26, el 0)] w63)
  refine wl_val (.bool true) (by kernel_rfl) (by kernel_rfl) ?_
  refine wl_nil ?_
  refine then_at (F := ⟨(.bool false :: pt q5 :: .bool false :: pt q14 :: .bool true :: pt q24 :: .bool false :: pt q33 :: .bool false :: pt q42 :: pt q51 :: .bool true :: pt q60 :: .bool true :: un :: un :: un :: .tuple #[arr 0, .bool false] :: .string ⟨(endsL 237 127).toArray⟩ :: .tuple #[arr 0, .bool false] :: arr 0 :: .bool false :: .tuple #[arr (negP 1), .bool true] :: .string ⟨(endsL 236 127).toArray⟩ :: .tuple #[arr (negP 1), .bool true] :: arr (negP 1) :: .bool true :: .tuple #[arr 0, .bool false] :: .slice (some ⟨q19, 0, none⟩) 31 31 :: .string (zs 31) :: .tuple #[arr 0, .bool false] :: arr 0 :: .bool false :: .tuple #[arr 0, .bool false] :: .string ⟨(endsL 236 255).toArray⟩ :: .tuple #[arr 0, .bool false] :: arr 0 :: .bool false :: arr 1 :: arr (negP 1) :: .tuple #[arr 0, .bool true] :: arr 0 :: .tuple #[arr 0, .bool true] :: arr 0 :: .bool true :: .tuple #[arr (negP 3), .bool true] :: arr 9 :: .tuple #[arr (negP 3), .bool true] :: arr (negP 3) :: .bool true :: List.replicate 82 un).toArray, []⟩) (by kernel_rfl) ?_
  refine wp_seq ?_
  -- region 8
  refine wl_region ?_
  refine wl_load h64 2 rfl (by kernel_rfl) (by kernel_rfl) Tryd.underlying26 rfl info26 ?_
  refine wl_call (v := .tuple #[arr rootI, .bool true]) h64 (by kernel_rfl) enter31 #[arr (negP 1)] (by kernel_rfl) (Root_yes rfl (negP_lt _) rootM w63 (VV.out.below h64.old VV.out.big)) ?_
  intro w65 h66
  refine wl_val (.tuple #[arr rootI, .bool true]) (by kernel_rfl) (by kernel_rfl) ?_
  refine wl_val (arr rootI) (by kernel_rfl) (by kernel_rfl) ?_
  refine wl_val (.bool true) (by kernel_rfl) (by kernel_rfl) ?_
  refine wl_make h66 26 (by kernel_rfl) run_alloc26 ?_
  intro q67 w68 h69
  refine wl_fill (c' := el rootI) h69 0 rfl (by kernel_rfl) (by kernel_rfl) (by kernel_rfl) rfl info26 (one_el _) ?_
  intro w70 (h71 : HA w [(q67, 26, el rootI), (q60, 26, el (negP 3)), (q51, 26, el 0), (q42, 26, el (negP 1)), (q33, 26, el 0), (q24, 26, el 0), (q19, 5, zr 31), (q14, 26, el (negP 1)), (q5, 26, el 0)] w70)
  refine wl_val (.bool true) (by kernel_rfl) (by kernel_rfl) ?_
  refine wl_nil ?_
  refine then_at (F := ⟨(.bool false :: pt q5 :: .bool false :: pt q14 :: .bool true :: pt q24 :: .bool false :: pt q33 :: .bool false :: pt q42 :: pt q51 :: .bool true :: pt q60 :: .bool true :: pt q67 :: .bool true :: un :: .tuple #[arr 0, .bool false] :: .string ⟨(endsL 237 127).toArray⟩ :: .tuple #[arr 0, .bool false] :: arr 0 :: .bool false :: .tuple #[arr (negP 1), .bool true] :: .string ⟨(endsL 236 127).toArray⟩ :: .tuple #[arr (negP 1), .bool true] :: arr (negP 1) :: .bool true :: .tuple #[arr 0, .bool false] :: .slice (some ⟨q19, 0, none⟩) 31 31 :: .string (zs 31) :: .tuple #[arr 0, .bool false] :: arr 0 :: .bool false :: .tuple #[arr 0, .bool false] :: .string ⟨(endsL 236 255).toArray⟩ :: .tuple #[arr 0, .bool false] :: arr 0 :: .bool false :: arr 1 :: arr (negP 1) :: .tuple #[arr 0, .bool true] :: arr 0 :: .tuple #[arr 0, .bool true] :: arr 0 :: .bool true :: .tuple #[arr (negP 3), .bool true] :: arr 9 :: .tuple #[arr (negP 3), .bool true] :: arr (negP 3) :: .bool true :: .tuple #[arr rootI, .bool true] :: arr (negP 1) :: .tuple #[arr rootI, .bool true] :: arr rootI :: .bool true :: List.replicate 77 un).toArray, []⟩) (by kernel_rfl) ?_
  refine wp_seq ?_
  -- region 9
  refine wl_region ?_
  refine wl_make h71 26 (by kernel_rfl) run_alloc26 ?_
  intro q72 w73 h74
  refine wl_nil ?_
  refine then_at (F := ⟨(.bool false :: pt q5 :: .bool false :: pt q14 :: .bool true :: pt q24 :: .bool false :: pt q33 :: .bool false :: pt q42 :: pt q51 :: .bool true :: pt q60 :: .bool true :: pt q67 :: .bool true :: pt q72 :: .tuple #[arr 0, .bool false] :: .string ⟨(endsL 237 127).toArray⟩ :: .tuple #[arr 0, .bool false] :: arr 0 :: .bool false :: .tuple #[arr (negP 1), .bool true] :: .string ⟨(endsL 236 127).toArray⟩ :: .tuple #[arr (negP 1), .bool true] :: arr (negP 1) :: .bool true :: .tuple #[arr 0, .bool false] :: .slice (some ⟨q19, 0, none⟩) 31 31 :: .string (zs 31) :: .tuple #[arr 0, .bool false] :: arr 0 :: .bool false :: .tuple #[arr 0, .bool false] :: .string ⟨(endsL 236 255).toArray⟩ :: .tuple #[arr 0, .bool false] :: arr 0 :: .bool false :: arr 1 :: arr (negP 1) :: .tuple #[arr 0, .bool true] :: arr 0 :: .tuple #[arr 0, .bool true] :: arr 0 :: .bool true :: .tuple #[arr (negP 3), .bool true] :: arr 9 :: .tuple #[arr (negP 3), .bool true] :: arr (negP 3) :: .bool true :: .tuple #[arr rootI, .bool true] :: arr (negP 1) :: .tuple #[arr rootI, .bool true] :: arr rootI :: .bool true :: List.replicate 77 un).toArray, []⟩) (by kernel_rfl) ?_
  refine wp_seq ?_
  -- region 10
  refine wp_region_ghost (fun g : Nat → Nat => (⟨(.bool true :: pt q5 :: .bool false :: pt q14 :: .bool true :: pt q24 :: .bool false :: pt q33 :: .bool false :: pt q42 :: pt q51 :: .bool true :: pt q60 :: .bool true :: pt q67 :: .bool true :: pt q72 :: .tuple #[arr 0, .bool false] :: .string ⟨(endsL 237 127).toArray⟩ :: .tuple #[arr 0, .bool false] :: arr 0 :: .bool false :: .tuple #[arr (negP 1), .bool true] :: .string ⟨(endsL 236 127).toArray⟩ :: .tuple #[arr (negP 1), .bool true] :: arr (negP 1) :: .bool true :: .tuple #[arr 0, .bool false] :: .slice (some ⟨q19, 0, none⟩) 31 31 :: .string (zs 31) :: .tuple #[arr 0, .bool false] :: arr 0 :: .bool false :: .tuple #[arr 0, .bool false] :: .string ⟨(endsL 236 255).toArray⟩ :: .tuple #[arr 0, .bool false] :: arr 0 :: .bool false :: arr 1 :: arr (negP 1) :: .tuple #[arr 0, .bool true] :: arr 0 :: .tuple #[arr 0, .bool true] :: arr 0 :: .bool true :: .tuple #[arr (negP 3), .bool true] :: arr 9 :: .tuple #[arr (negP 3), .bool true] :: arr (negP 3) :: .bool true :: .tuple #[arr rootI, .bool true] :: arr (negP 1) :: .tuple #[arr rootI, .bool true] :: arr rootI :: .bool true :: .bool true :: .bool true :: .bool false :: .bool true :: .bool true :: .bool true :: .bool true :: .bool true :: .bool true :: arr (negP 1) :: arr (negP 1) :: .bool true :: .bool true :: .bool true :: .bool false :: .bool true :: .bool true :: .bool true :: .bool false :: .bool true :: .bool true :: .bool true :: arr 3 :: arr 5 :: arr (subP 3 5) :: arr 2 :: arr (negP 2) :: .bool true :: .bool true :: .bool true :: arr 0 :: arr (invE 0) :: arr 0 :: .bool true :: .bool true :: .bool true :: .bool true :: .bool true :: .bool true :: arr 0 :: arr 0 :: .bool true :: .bool true :: .bool true :: .bool true :: .bool true :: .bool true :: arr (negP 3) :: arr 3 :: arr (negP 3) :: .bool true :: .bool true :: .bool true :: .bool true :: .bool true :: .bool true :: arr rootI :: .string (bytesOf rootI) :: .bool true :: .bool true :: .bool true :: arr 0 :: .string (bytesOf 0) :: .slice (some ⟨g 63, 0, none⟩) 32 32 :: .string (zs 32) :: .bool true :: .bool true :: .bool true :: arr 4294967295 :: arr 1 :: arr (addP 4294967295 1) :: .string (bytesOf (addP 4294967295 1)) :: .slice (some ⟨g 72, 0, none⟩) 27 27 :: .string (zs 27) :: .string ({ data := #[0, 0, 0, 0, 1] } ++ zs 27) :: .bool true :: .bool true :: List.replicate 0 un).toArray, []⟩ : Act)) (GM w [(q72, 26, el 0), (q67, 26, el rootI), (q60, 26, el (negP 3)), (q51, 26, el 0), (q42, 26, el (negP 1)), (q33, 26, el 0), (q24, 26, el 0), (q19, 5, zr 31), (q14, 26, el (negP 1)), (q5, 26, el 0)] [(63, 5, zr 32), (72, 5, zr 27)]) [.bool true, .bool true, .bool false, .bool true, .bool true, .bool true, .bool true, .bool true, .bool true, arr (negP 1), arr (negP 1), .bool true, .bool true, .bool true, .bool false, .bool true, .bool true, .bool true, .bool false, .bool true, .bool true, .bool true, arr 3, arr 5, arr (subP 3 5), arr 2, arr (negP 2), .bool true, .bool true, .bool true, arr 0, arr (invE 0), arr 0, .bool true, .bool true, .bool true, .bool true, .bool true, .bool true, arr 0, arr 0, .bool true, .bool true, .bool true, .bool true, .bool true, .bool true, arr (negP 3), arr 3, arr (negP 3), .bool true, .bool true, .bool true, .bool true, .bool true, .bool true, arr rootI, .string (bytesOf rootI), .bool true, .bool true, .bool true, arr 0, .string (bytesOf 0), .slice (some ⟨0, 0, none⟩) 32 32, .string (zs 32), .bool true, .bool true, .bool true, arr 4294967295, arr 1, arr (addP 4294967295 1), .string (bytesOf (addP 4294967295 1)), .slice (some ⟨0, 0, none⟩) 27 27, .string (zs 27), .string ({ data := #[0, 0, 0, 0, 1] } ++ zs 27), .bool true, .bool true, .bool true] (by kernel_rfl) (by kernel_rfl) (by kernel_rfl) (by kernel_rfl) (fun _ _ _ _ h => h) (fun d hd => GM.start h74.drew 78 (by kernel_rfl) hd) ?_ ?_
  · refine AllGhost.cons (gm_call (v := .bool true) (by kernel_rfl) (fun _ => by kernel_rfl) (fun _ => by kernel_rfl) enter19 #[] (fun _ => by kernel_rfl) (fun w' h' => works_any w' (VV.out.below h'.old VV.out.big))) ?_
    refine AllGhost.cons (gm_plain (v := fun _ => .bool true) (by kernel_rfl) (fun _ => by kernel_rfl) (fun _ => by kernel_rfl) (fun _ _ => (by kernel_rfl))) ?_
    refine AllGhost.cons (gm_plain (v := fun _ => .bool false) (by kernel_rfl) (fun _ => by kernel_rfl) (fun _ => by kernel_rfl) (fun _ _ => (by kernel_rfl))) ?_
    refine AllGhost.cons (gm_plain (v := fun _ => .bool true) (by kernel_rfl) (fun _ => by kernel_rfl) (fun _ => by kernel_rfl) (fun _ _ => (by kernel_rfl))) ?_
    refine AllGhost.cons (gm_plain (v := fun _ => .bool true) (by kernel_rfl) (fun _ => by kernel_rfl) (fun _ => by kernel_rfl) (fun _ _ => (by kernel_rfl))) ?_
    refine AllGhost.cons (gm_plain (v := fun _ => .bool true) (by kernel_rfl) (fun _ => by kernel_rfl) (fun _ => by kernel_rfl) (fun _ _ => (by kernel_rfl))) ?_
    refine AllGhost.cons (gm_plain (v := fun _ => .bool true) (by kernel_rfl) (fun _ => by kernel_rfl) (fun _ => by kernel_rfl) (fun _ _ => (by kernel_rfl))) ?_
    refine AllGhost.cons (gm_plain (v := fun _ => .bool true) (by kernel_rfl) (fun _ => by kernel_rfl) (fun _ => by kernel_rfl) (fun _ _ => (by kernel_rfl))) ?_
    refine AllGhost.cons (gm_plain (v := fun _ => .bool true) (by kernel_rfl) (fun _ => by kernel_rfl) (fun _ => by kernel_rfl) (fun _ _ => (by kernel_rfl))) ?_
    refine AllGhost.cons (gm_load 8 rfl (by kernel_rfl) (fun _ => by kernel_rfl) (fun _ => by kernel_rfl) (fun _ => by kernel_rfl) Tryd.underlying26 rfl info26) ?_
    refine AllGhost.cons (gm_load 4 rfl (by kernel_rfl) (fun _ => by kernel_rfl) (fun _ => by kernel_rfl) (fun _ => by kernel_rfl) Tryd.underlying26 rfl info26) ?_
    refine AllGhost.cons (gm_call (v := .bool true) (by kernel_rfl) (fun _ => by kernel_rfl) (fun _ => by kernel_rfl) enter30 #[arr (negP 1), arr (negP 1)] (fun _ => by kernel_rfl) (fun w' h' => Same_yes (negP 1) (negP 1) (negP_lt _) (negP_lt _) rfl w')) ?_
    refine AllGhost.cons (gm_plain (v := fun _ => .bool true) (by kernel_rfl) (fun _ => by kernel_rfl) (fun _ => by kernel_rfl) (fun _ _ => (by kernel_rfl))) ?_
    refine AllGhost.cons (gm_plain (v := fun _ => .bool true) (by kernel_rfl) (fun _ => by kernel_rfl) (fun _ => by kernel_rfl) (fun _ _ => (by kernel_rfl))) ?_
    refine AllGhost.cons (gm_plain (v := fun _ => .bool false) (by kernel_rfl) (fun _ => by kernel_rfl) (fun _ => by kernel_rfl) (fun _ _ => (by kernel_rfl))) ?_
    refine AllGhost.cons (gm_plain (v := fun _ => .bool true) (by kernel_rfl) (fun _ => by kernel_rfl) (fun _ => by kernel_rfl) (fun _ _ => (by kernel_rfl))) ?_
    refine AllGhost.cons (gm_plain (v := fun _ => .bool true) (by kernel_rfl) (fun _ => by kernel_rfl) (fun _ => by kernel_rfl) (fun _ _ => (by kernel_rfl))) ?_
    refine AllGhost.cons (gm_plain (v := fun _ => .bool true) (by kernel_rfl) (fun _ => by kernel_rfl) (fun _ => by kernel_rfl) (fun _ _ => (by kernel_rfl))) ?_
    refine AllGhost.cons (gm_plain (v := fun _ => .bool false) (by kernel_rfl) (fun _ => by kernel_rfl) (fun _ => by kernel_rfl) (fun _ _ => (by kernel_rfl))) ?_
    refine AllGhost.cons (gm_plain (v := fun _ => .bool true) (by kernel_rfl) (fun _ => by kernel_rfl) (fun _ => by kernel_rfl) (fun _ _ => (by kernel_rfl))) ?_
    refine AllGhost.cons (gm_plain (v := fun _ => .bool true) (by kernel_rfl) (fun _ => by kernel_rfl) (fun _ => by kernel_rfl) (fun _ _ => (by kernel_rfl))) ?_
    refine AllGhost.cons (gm_plain (v := fun _ => .bool true) (by kernel_rfl) (fun _ => by kernel_rfl) (fun _ => by kernel_rfl) (fun _ _ => (by kernel_rfl))) ?_
    refine AllGhost.cons (gm_call (v := arr 3) (by kernel_rfl) (fun _ => by kernel_rfl) (fun _ => by kernel_rfl) enter17 #[iN .u32 3] (fun _ => by kernel_rfl) (fun w' h' => Small_any 3 (by decide) w')) ?_
    refine AllGhost.cons (gm_call (v := arr 5) (by kernel_rfl) (fun _ => by kernel_rfl) (fun _ => by kernel_rfl) enter17 #[iN .u32 5] (fun _ => by kernel_rfl) (fun w' h' => Small_any 5 (by decide) w')) ?_
    refine AllGhost.cons (gm_call (v := arr (subP 3 5)) (by kernel_rfl) (fun _ => by kernel_rfl) (fun _ => by kernel_rfl) enter24 #[arr 3, arr 5] (fun _ => by kernel_rfl) (fun w' h' => Sub_any 3 5 (by decide) (by decide) w' (VV.out.below h'.old VV.out.big))) ?_
    refine AllGhost.cons (gm_call (v := arr 2) (by kernel_rfl) (fun _ => by kernel_rfl) (fun _ => by kernel_rfl) enter17 #[iN .u32 2] (fun _ => by kernel_rfl) (fun w' h' => Small_any 2 (by decide) w')) ?_
    refine AllGhost.cons (gm_call (v := arr (negP 2)) (by kernel_rfl) (fun _ => by kernel_rfl) (fun _ => by kernel_rfl) enter28 #[arr 2] (fun _ => by kernel_rfl) (fun w' h' => Neg_any 2 (by decide) w' (VV.out.below h'.old VV.out.big))) ?_
    refine AllGhost.cons (gm_call (v := .bool true) (by kernel_rfl) (fun _ => by kernel_rfl) (fun _ => by kernel_rfl) enter30 #[arr (subP 3 5), arr (negP 2)] (fun _ => by kernel_rfl) (fun w' h' => Same_yes (subP 3 5) (negP 2) (subP_lt _ _) (negP_lt _) (by decide +kernel) w')) ?_
    refine AllGhost.cons (gm_plain (v := fun _ => .bool true) (by kernel_rfl) (fun _ => by kernel_rfl) (fun _ => by kernel_rfl) (fun _ _ => (by kernel_rfl))) ?_
    refine AllGhost.cons (gm_plain (v := fun _ => .bool true) (by kernel_rfl) (fun _ => by kernel_rfl) (fun _ => by kernel_rfl) (fun _ _ => (by kernel_rfl))) ?_
    refine AllGhost.cons (gm_call (v := arr 0) (by kernel_rfl) (fun _ => by kernel_rfl) (fun _ => by kernel_rfl) enter17 #[iN .u32 0] (fun _ => by kernel_rfl) (fun w' h' => Small_any 0 (by decide) w')) ?_
    refine AllGhost.cons (gm_call (v := arr (invE 0)) (by kernel_rfl) (fun _ => by kernel_rfl) (fun _ => by kernel_rfl) enter33 #[arr 0] (fun _ => by kernel_rfl) (fun w' h' => Inv_any 0 (by decide) w' (VV.out.below h'.old VV.out.big))) ?_
    refine AllGhost.cons (gm_call (v := arr 0) (by kernel_rfl) (fun _ => by kernel_rfl) (fun _ => by kernel_rfl) enter17 #[iN .u32 0] (fun _ => by kernel_rfl) (fun w' h' => Small_any 0 (by decide) w')) ?_
    refine AllGhost.cons (gm_call (v := .bool true) (by kernel_rfl) (fun _ => by kernel_rfl) (fun _ => by kernel_rfl) enter30 #[arr (invE 0), arr 0] (fun _ => by kernel_rfl) (fun w' h' => Same_yes (invE 0) 0 (invE_lt _) (by decide) invE_zero w')) ?_
    refine AllGhost.cons (gm_plain (v := fun _ => .bool true) (by kernel_rfl) (fun _ => by kernel_rfl) (fun _ => by kernel_rfl) (fun _ _ => (by kernel_rfl))) ?_
    refine AllGhost.cons (gm_plain (v := fun _ => .bool true) (by kernel_rfl) (fun _ => by kernel_rfl) (fun _ => by kernel_rfl) (fun _ _ => (by kernel_rfl))) ?_
    refine AllGhost.cons (gm_plain (v := fun _ => .bool true) (by kernel_rfl) (fun _ => by kernel_rfl) (fun _ => by kernel_rfl) (fun _ _ => (by kernel_rfl))) ?_
    refine AllGhost.cons (gm_plain (v := fun _ => .bool true) (by kernel_rfl) (fun _ => by kernel_rfl) (fun _ => by kernel_rfl) (fun _ _ => (by kernel_rfl))) ?_
    refine AllGhost.cons (gm_plain (v := fun _ => .bool true) (by kernel_rfl) (fun _ => by kernel_rfl) (fun _ => by kernel_rfl) (fun _ _ => (by kernel_rfl))) ?_
    refine AllGhost.cons (gm_load 3 rfl (by kernel_rfl) (fun _ => by kernel_rfl) (fun _ => by kernel_rfl) (fun _ => by kernel_rfl) Tryd.underlying26 rfl info26) ?_
    refine AllGhost.cons (gm_load 0 rfl (by kernel_rfl) (fun _ => by kernel_rfl) (fun _ => by kernel_rfl) (fun _ => by kernel_rfl) Tryd.underlying26 rfl info26) ?_
    refine AllGhost.cons (gm_call (v := .bool true) (by kernel_rfl) (fun _ => by kernel_rfl) (fun _ => by kernel_rfl) enter30 #[arr 0, arr 0] (fun _ => by kernel_rfl) (fun w' h' => Same_yes 0 0 (by decide) (by decide) rfl w')) ?_
    refine AllGhost.cons (gm_plain (v := fun _ => .bool true) (by kernel_rfl) (fun _ => by kernel_rfl) (fun _ => by kernel_rfl) (fun _ _ => (by kernel_rfl))) ?_
    refine AllGhost.cons (gm_plain (v := fun _ => .bool true) (by kernel_rfl) (fun _ => by kernel_rfl) (fun _ => by kernel_rfl) (fun _ _ => (by kernel_rfl))) ?_
    refine AllGhost.cons (gm_plain (v := fun _ => .bool true) (by kernel_rfl) (fun _ => by kernel_rfl) (fun _ => by kernel_rfl) (fun _ _ => (by kernel_rfl))) ?_
    refine AllGhost.cons (gm_plain (v := fun _ => .bool true) (by kernel_rfl) (fun _ => by kernel_rfl) (fun _ => by kernel_rfl) (fun _ _ => (by kernel_rfl))) ?_
    refine AllGhost.cons (gm_plain (v := fun _ => .bool true) (by kernel_rfl) (fun _ => by kernel_rfl) (fun _ => by kernel_rfl) (fun _ _ => (by kernel_rfl))) ?_
    refine AllGhost.cons (gm_load 2 rfl (by kernel_rfl) (fun _ => by kernel_rfl) (fun _ => by kernel_rfl) (fun _ => by kernel_rfl) Tryd.underlying26 rfl info26) ?_
    refine AllGhost.cons (gm_call (v := arr 3) (by kernel_rfl) (fun _ => by kernel_rfl) (fun _ => by kernel_rfl) enter17 #[iN .u32 3] (fun _ => by kernel_rfl) (fun w' h' => Small_any 3 (by decide) w')) ?_
    refine AllGhost.cons (gm_call (v := arr (negP 3)) (by kernel_rfl) (fun _ => by kernel_rfl) (fun _ => by kernel_rfl) enter28 #[arr 3] (fun _ => by kernel_rfl) (fun w' h' => Neg_any 3 (by decide) w' (VV.out.below h'.old VV.out.big))) ?_
    refine AllGhost.cons (gm_call (v := .bool true) (by kernel_rfl) (fun _ => by kernel_rfl) (fun _ => by kernel_rfl) enter30 #[arr (negP 3), arr (negP 3)] (fun _ => by kernel_rfl) (fun w' h' => Same_yes (negP 3) (negP 3) (negP_lt _) (negP_lt _) rfl w')) ?_
    refine AllGhost.cons (gm_plain (v := fun _ => .bool true) (by kernel_rfl) (fun _ => by kernel_rfl) (fun _ => by kernel_rfl) (fun _ _ => (by kernel_rfl))) ?_
    refine AllGhost.cons (gm_plain (v := fun _ => .bool true) (by kernel_rfl) (fun _ => by kernel_rfl) (fun _ => by kernel_rfl) (fun _ _ => (by kernel_rfl))) ?_
    refine AllGhost.cons (gm_plain (v := fun _ => .bool true) (by kernel_rfl) (fun _ => by kernel_rfl) (fun _ => by kernel_rfl) (fun _ _ => (by kernel_rfl))) ?_
    refine AllGhost.cons (gm_plain (v := fun _ => .bool true) (by kernel_rfl) (fun _ => by kernel_rfl) (fun _ => by kernel_rfl) (fun _ _ => (by kernel_rfl))) ?_
    refine AllGhost.cons (gm_plain (v := fun _ => .bool true) (by kernel_rfl) (fun _ => by kernel_rfl) (fun _ => by kernel_rfl) (fun _ _ => (by kernel_rfl))) ?_
    refine AllGhost.cons (gm_load 1 rfl (by kernel_rfl) (fun _ => by kernel_rfl) (fun _ => by kernel_rfl) (fun _ => by kernel_rfl) Tryd.underlying26 rfl info26) ?_
    refine AllGhost.cons (gm_call (v := .string (bytesOf rootI)) (by kernel_rfl) (fun _ => by kernel_rfl) (fun _ => by kernel_rfl) enter13 #[arr rootI] (fun _ => by kernel_rfl) (fun w' h' => Bytes_any rootI w')) ?_
    refine AllGhost.cons (gm_plain (v := fun _ => .bool true) (by kernel_rfl) (fun _ => by kernel_rfl) (fun _ => by kernel_rfl) (fun _ _ => (run_eqs (s := bytesOf rootI) (t := { data := #[176, 160, 14, 74, 39, 27, 238, 196, 120, 228, 47, 173, 6, 24, 67, 47, 167, 215, 251, 61, 153, 0, 77, 43, 11, 223, 193, 79, 128, 36, 131, 43] }) (by kernel_rfl) (by kernel_rfl) true (by decide +kernel)))) ?_
    refine AllGhost.cons (gm_plain (v := fun _ => .bool true) (by kernel_rfl) (fun _ => by kernel_rfl) (fun _ => by kernel_rfl) (fun _ _ => (by kernel_rfl))) ?_
    refine AllGhost.cons (gm_plain (v := fun _ => .bool true) (by kernel_rfl) (fun _ => by kernel_rfl) (fun _ => by kernel_rfl) (fun _ _ => (by kernel_rfl))) ?_
    refine AllGhost.cons (gm_load 0 rfl (by kernel_rfl) (fun _ => by kernel_rfl) (fun _ => by kernel_rfl) (fun _ => by kernel_rfl) Tryd.underlying26 rfl info26) ?_
    refine AllGhost.cons (gm_call (v := .string (bytesOf 0)) (by kernel_rfl) (fun _ => by kernel_rfl) (fun _ => by kernel_rfl) enter13 #[arr 0] (fun _ => by kernel_rfl) (fun w' h' => Bytes_any 0 w')) ?_
    refine AllGhost.cons (gm_make (fun m => .slice (some ⟨m, 0, none⟩) 32 32) (by kernel_rfl) (by simp) (fun _ => by kernel_rfl) (fun _ _ => by kernel_rfl) (fun _ _ => (run_mk 32 (by decide) (by kernel_rfl) (by kernel_rfl)))) ?_
    refine AllGhost.cons (gm_reads (v := .string (zs 32)) 0 rfl (by kernel_rfl) (fun _ => by kernel_rfl) (fun _ => by kernel_rfl) (by kernel_rfl) (fun g w' hb => run_noughts 32 (by kernel_rfl) hb)) ?_
    refine AllGhost.cons (gm_plain (v := fun _ => .bool true) (by kernel_rfl) (fun _ => by kernel_rfl) (fun _ => by kernel_rfl) (fun _ _ => (run_eqs (s := bytesOf 0) (t := zs 32) (by kernel_rfl) (by kernel_rfl) true (by decide +kernel)))) ?_
    refine AllGhost.cons (gm_plain (v := fun _ => .bool true) (by kernel_rfl) (fun _ => by kernel_rfl) (fun _ => by kernel_rfl) (fun _ _ => (by kernel_rfl))) ?_
    refine AllGhost.cons (gm_plain (v := fun _ => .bool true) (by kernel_rfl) (fun _ => by kernel_rfl) (fun _ => by kernel_rfl) (fun _ _ => (by kernel_rfl))) ?_
    refine AllGhost.cons (gm_call (v := arr 4294967295) (by kernel_rfl) (fun _ => by kernel_rfl) (fun _ => by kernel_rfl) enter17 #[iN .u32 4294967295] (fun _ => by kernel_rfl) (fun w' h' => Small_any 4294967295 (by decide) w')) ?_
    refine AllGhost.cons (gm_call (v := arr 1) (by kernel_rfl) (fun _ => by kernel_rfl) (fun _ => by kernel_rfl) enter17 #[iN .u32 1] (fun _ => by kernel_rfl) (fun w' h' => Small_any 1 (by decide) w')) ?_
    refine AllGhost.cons (gm_call (v := arr (addP 4294967295 1)) (by kernel_rfl) (fun _ => by kernel_rfl) (fun _ => by kernel_rfl) enter22 #[arr 4294967295, arr 1] (fun _ => by kernel_rfl) (fun w' h' => Add_any 4294967295 1 (by decide) (by decide) w' (VV.out.below h'.old VV.out.big))) ?_
    refine AllGhost.cons (gm_call (v := .string (bytesOf (addP 4294967295 1))) (by kernel_rfl) (fun _ => by kernel_rfl) (fun _ => by kernel_rfl) enter13 #[arr (addP 4294967295 1)] (fun _ => by kernel_rfl) (fun w' h' => Bytes_any (addP 4294967295 1) w')) ?_
    refine AllGhost.cons (gm_make (fun m => .slice (some ⟨m, 0, none⟩) 27 27) (by kernel_rfl) (by simp) (fun _ => by kernel_rfl) (fun _ _ => by kernel_rfl) (fun _ _ => (run_mk 27 (by decide) (by kernel_rfl) (by kernel_rfl)))) ?_
    refine AllGhost.cons (gm_reads (v := .string (zs 27)) 1 rfl (by kernel_rfl) (fun _ => by kernel_rfl) (fun _ => by kernel_rfl) (by kernel_rfl) (fun g w' hb => run_noughts 27 (by kernel_rfl) hb)) ?_
    refine AllGhost.cons (gm_plain (v := fun _ => .string ({ data := #[0, 0, 0, 0, 1] } ++ zs 27)) (by kernel_rfl) (fun _ => by kernel_rfl) (fun _ => by kernel_rfl) (fun _ _ => (run_cat (s := { data := #[0, 0, 0, 0, 1] }) (t := zs 27) (by kernel_rfl) (by kernel_rfl) (by decide +kernel)))) ?_
    refine AllGhost.cons (gm_plain (v := fun _ => .bool true) (by kernel_rfl) (fun _ => by kernel_rfl) (fun _ => by kernel_rfl) (fun _ _ => (run_eqs (s := bytesOf (addP 4294967295 1)) (t := ({ data := #[0, 0, 0, 0, 1] } ++ zs 27)) (by kernel_rfl) (by kernel_rfl) true (by decide +kernel)))) ?_
    refine AllGhost.cons (gm_plain (v := fun _ => .bool true) (by kernel_rfl) (fun _ => by kernel_rfl) (fun _ => by kernel_rfl) (fun _ _ => (by kernel_rfl))) ?_
    refine AllGhost.cons (gm_plain (v := fun _ => .bool true) (by kernel_rfl) (fun _ => by kernel_rfl) (fun _ => by kernel_rfl) (fun _ _ => (by kernel_rfl))) ?_
    exact AllGhost.nil
  intro g w75 g76
  have h77 := g76.held
  clear g76
  generalize g 63 = u78
  generalize g 72 = u79
  clear g
  refine then_at (F := ⟨(.bool true :: pt q5 :: .bool false :: pt q14 :: .bool true :: pt q24 :: .bool false :: pt q33 :: .bool false :: pt q42 :: pt q51 :: .bool true :: pt q60 :: .bool true :: pt q67 :: .bool true :: pt q72 :: .tuple #[arr 0, .bool false] :: .string ⟨(endsL 237 127).toArray⟩ :: .tuple #[arr 0, .bool false] :: arr 0 :: .bool false :: .tuple #[arr (negP 1), .bool true] :: .string ⟨(endsL 236 127).toArray⟩ :: .tuple #[arr (negP 1), .bool true] :: arr (negP 1) :: .bool true :: .tuple #[arr 0, .bool false] :: .slice (some ⟨q19, 0, none⟩) 31 31 :: .string (zs 31) :: .tuple #[arr 0, .bool false] :: arr 0 :: .bool false :: .tuple #[arr 0, .bool false] :: .string ⟨(endsL 236 255).toArray⟩ :: .tuple #[arr 0, .bool false] :: arr 0 :: .bool false :: arr 1 :: arr (negP 1) :: .tuple #[arr 0, .bool true] :: arr 0 :: .tuple #[arr 0, .bool true] :: arr 0 :: .bool true :: .tuple #[arr (negP 3), .bool true] :: arr 9 :: .tuple #[arr (negP 3), .bool true] :: arr (negP 3) :: .bool true :: .tuple #[arr rootI, .bool true] :: arr (negP 1) :: .tuple #[arr rootI, .bool true] :: arr rootI :: .bool true :: .bool true :: .bool true :: .bool false :: .bool true :: .bool true :: .bool true :: .bool true :: .bool true :: .bool true :: arr (negP 1) :: arr (negP 1) :: .bool true :: .bool true :: .bool true :: .bool false :: .bool true :: .bool true :: .bool true :: .bool false :: .bool true :: .bool true :: .bool true :: arr 3 :: arr 5 :: arr (subP 3 5) :: arr 2 :: arr (negP 2) :: .bool true :: .bool true :: .bool true :: arr 0 :: arr (invE 0) :: arr 0 :: .bool true :: .bool true :: .bool true :: .bool true :: .bool true :: .bool true :: arr 0 :: arr 0 :: .bool true :: .bool true :: .bool true :: .bool true :: .bool true :: .bool true :: arr (negP 3) :: arr 3 :: arr (negP 3) :: .bool true :: .bool true :: .bool true :: .bool true :: .bool true :: .bool true :: arr rootI :: .string (bytesOf rootI) :: .bool true :: .bool true :: .bool true :: arr 0 :: .string (bytesOf 0) :: .slice (some ⟨u78, 0, none⟩) 32 32 :: .string (zs 32) :: .bool true :: .bool true :: .bool true :: arr 4294967295 :: arr 1 :: arr (addP 4294967295 1) :: .string (bytesOf (addP 4294967295 1)) :: .slice (some ⟨u79, 0, none⟩) 27 27 :: .string (zs 27) :: .string ({ data := #[0, 0, 0, 0, 1] } ++ zs 27) :: .bool true :: .bool true :: List.replicate 0 un).toArray, []⟩) (by kernel_rfl) ?_
  refine wp_ret ?_
  repeat first | refine then_ret ?_ | refine block_ret ?_
  exact bodyPost_ret (v := .bool true) (by kernel_rfl) rfl ⟨rfl, h77.old⟩
end Go.Proofs.YtbmfmamhidccbaaDoor
