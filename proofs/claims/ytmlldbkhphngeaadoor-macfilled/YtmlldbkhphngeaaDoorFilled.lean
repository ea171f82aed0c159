/-
  the law of a key that is filled.
-/
import Derived.Test.YtmlldbkhphngeaaDoorML
namespace Go.Proofs.YtmlldbkhphngeaaDoor
open Go.RowKit


theorem zz_size (m : Nat) : (ByteArray.mk ((List.replicate m (0 : UInt8)).take m).toArray).size = m := by
  rw [sz_mk, List.length_take, List.length_replicate, Nat.min_self]
theorem kb_fill (k : ByteArray) (m : Nat) (h : k.size + m ≤ 64) : kbP (k ++ ⟨((List.replicate m 0).take m).toArray⟩) = kbP k := by
  have e : bl (k ++ ⟨((List.replicate m (0 : UInt8)).take m).toArray⟩) = bl k ++ List.replicate m 0 := by
    rw [bl_append, bl_mk ((List.replicate m 0).take m), List.take_of_length_le (by rw [List.length_replicate]; exact Nat.le_refl _)]
  unfold kbP
  rw [ky_no k (by omega), ky_no _ (by rw [ByteArray.size_append, zz_size]; omega), e, List.length_append, List.length_replicate, List.append_assoc, List.replicate_append_replicate, bl_len]
  congr 2
  omega

set_option linter.unusedVariables false in
set_option maxRecDepth 100000 in
set_option maxHeartbeats 2000000 in
theorem MacFilled_any (k t : ByteArray) (z : Nat) (hz : z ≤ 255) (hk : k.size ≤ 140737488351232) (ht : t.size ≤ 140737488351232) (w : World) (VV : Vars w) :
    Calls Tryd.prog 7 #[.string k, .string t, iN .u8 z] w fun e w' => e = .returned (.bool true) ∧ Below w.heap.size w w' := by
  have H0 := HA.start w
  go_enter Tryd.func7, Tryd.ntmps7
  refine wp_seq ?_
  -- region 0
  refine wl_region ?_
  refine wl_val (.bool false) (by kernel_rfl) (by kernel_rfl) ?_
  refine wl_nil ?_
  refine then_at (F := ⟨(.string k :: .string t :: iN .u8 z :: un :: un :: un :: .bool false :: List.replicate 35 un).toArray, []⟩) (by kernel_rfl) ?_
  refine wp_seq ?_
  refine wp_seq ?_
  -- region 1
  refine wl_region ?_
  refine wl_call (v := .bool true) H0 (by kernel_rfl) enter14 #[] (by kernel_rfl) (worksc w (VV.below H0.old VV.big)) ?_
  intro w1 h2
  refine wl_val (.bool false) (by kernel_rfl) (by kernel_rfl) ?_
  refine wl_nil ?_
  refine then_at (F := ⟨(.string k :: .string t :: iN .u8 z :: un :: un :: un :: .bool false :: un :: .bool true :: .bool false :: List.replicate 32 un).toArray, []⟩) (by kernel_rfl) ?_
  refine wp_cond_false (by kernel_rfl) ?_
  refine wp_skip ?_
  refine then_at (F := ⟨(.string k :: .string t :: iN .u8 z :: un :: un :: un :: .bool false :: un :: .bool true :: .bool false :: List.replicate 32 un).toArray, []⟩) (by kernel_rfl) ?_
  refine wp_seq ?_
  refine wp_seq ?_
  by_cases hc : 64 < k.size
  · -- region 3
    refine wl_region ?_
    refine wl_val (.string k) (by kernel_rfl) (by kernel_rfl) ?_
    refine wl_val (iN .i64 k.size) (by kernel_rfl) (run_len (s := k) (by kernel_rfl)) ?_
    refine wl_val (.bool true) (by kernel_rfl) (run_gtr (k := .i64) (a := k.size) (b := 64) (by kernel_rfl) (by kernel_rfl) true (decide_eq_true hc)) ?_
    refine wl_nil ?_
    refine then_at (F := ⟨(.string k :: .string t :: iN .u8 z :: un :: un :: un :: .bool false :: un :: .bool true :: .bool false :: .string k :: iN .i64 k.size :: .bool true :: List.replicate 29 un).toArray, []⟩) (by kernel_rfl) ?_
    refine wp_cond_true (by kernel_rfl) ?_
    refine wp_seq ?_
    -- region 4
    refine wl_region ?_
    refine wl_val (.bool true) (by kernel_rfl) (by kernel_rfl) ?_
    refine wl_nil ?_
    refine then_at (F := ⟨(.string k :: .string t :: iN .u8 z :: un :: un :: un :: .bool true :: un :: .bool true :: .bool false :: .string k :: iN .i64 k.size :: .bool true :: List.replicate 29 un).toArray, []⟩) (by kernel_rfl) ?_
    refine wp_ret ?_
    repeat first | refine then_ret ?_ | refine block_ret ?_
    exact bodyPost_ret (v := .bool true) (by kernel_rfl) rfl ⟨rfl, h2.old⟩
  · -- region 3
    refine wl_region ?_
    refine wl_val (.string k) (by kernel_rfl) (by kernel_rfl) ?_
    refine wl_val (iN .i64 k.size) (by kernel_rfl) (run_len (s := k) (by kernel_rfl)) ?_
    refine wl_val (.bool false) (by kernel_rfl) (run_gtr (k := .i64) (a := k.size) (b := 64) (by kernel_rfl) (by kernel_rfl) false (decide_eq_false hc)) ?_
    refine wl_nil ?_
    refine then_at (F := ⟨(.string k :: .string t :: iN .u8 z :: un :: un :: un :: .bool false :: un :: .bool true :: .bool false :: .string k :: iN .i64 k.size :: .bool false :: List.replicate 29 un).toArray, []⟩) (by kernel_rfl) ?_
    refine wp_cond_false (by kernel_rfl) ?_
    refine wp_skip ?_
    refine then_at (F := ⟨(.string k :: .string t :: iN .u8 z :: un :: un :: un :: .bool false :: un :: .bool true :: .bool false :: .string k :: iN .i64 k.size :: .bool false :: List.replicate 29 un).toArray, []⟩) (by kernel_rfl) ?_
    refine wp_seq ?_
    have hm : z % (65 - k.size) < 65 - k.size := Nat.mod_lt _ (by omega)
    obtain ⟨Z, hZ⟩ : ∃ Z : ByteArray, Z = ⟨((List.replicate (z % (65 - k.size)) 0).take (z % (65 - k.size))).toArray⟩ := ⟨_, rfl⟩
    have hZs : Z.size = z % (65 - k.size) := by rw [hZ]; exact zz_size _
    -- region 5
    refine wl_region ?_
    refine wl_val (iN .u8 z) (by kernel_rfl) (by kernel_rfl) ?_
    refine wl_val (iN .i64 z) (by kernel_rfl) (run_conv .i64 Tryd.underlying5 Tryd.underlying3 (by kernel_rfl) (by simp only [top]; omega)) ?_
    refine wl_val (.string k) (by kernel_rfl) (by kernel_rfl) ?_
    refine wl_val (iN .i64 k.size) (by kernel_rfl) (run_len (s := k) (by kernel_rfl)) ?_
    refine wl_val (iN .i64 (65 - k.size)) (by kernel_rfl) (run_sub (k := .i64) (a := 65) (b := k.size) (by kernel_rfl) (by kernel_rfl) (by omega) (by simp only [top]; omega)) ?_
    refine wl_val (iN .i64 (z % (65 - k.size))) (by kernel_rfl) (run_rem (k := .i64) (a := z) (b := 65 - k.size) (by kernel_rfl) (by kernel_rfl) (by omega)) ?_
    refine wl_val (iN .i64 (z % (65 - k.size))) (by kernel_rfl) (by kernel_rfl) ?_
    refine wl_nil ?_
    refine then_at (F := ⟨(.string k :: .string t :: iN .u8 z :: un :: un :: un :: .bool false :: iN .i64 (z % (65 - k.size)) :: .bool true :: .bool false :: .string k :: iN .i64 k.size :: .bool false :: iN .u8 z :: iN .i64 z :: .string k :: iN .i64 k.size :: iN .i64 (65 - k.size) :: iN .i64 (z % (65 - k.size)) :: List.replicate 23 un).toArray, []⟩) (by kernel_rfl) ?_
    refine wp_seq ?_
    -- region 6
    refine wl_region ?_
    refine wl_val (.string k) (by kernel_rfl) (by kernel_rfl) ?_
    refine wl_val (iN .i64 (z % (65 - k.size))) (by kernel_rfl) (by kernel_rfl) ?_
    refine wl_mks (n := z % (65 - k.size)) (m := z % (65 - k.size)) h2 5 (by kernel_rfl) (run_mk (k := .i64) (m := z % (65 - k.size)) (c := z % (65 - k.size)) (by kernel_rfl) (by kernel_rfl) (by omega) (by omega)) ?_
    intro q3 w4 h5
    refine wl_val (.string Z) (by kernel_rfl) ((by rw [hZ]; exact run_textg (q := q3) (m := z % (65 - k.size)) (c := z % (65 - k.size)) (l := List.replicate (z % (65 - k.size)) 0) (by kernel_rfl) (h5.get 0 rfl) (by rw [(List.length_replicate)]; omega))) ?_
    refine wl_val (.string (k ++ Z)) (by kernel_rfl) (run_cat (s := k) (t := Z) (by kernel_rfl) (by kernel_rfl) (by rw [hZs]; omega)) ?_
    refine wl_val (.string t) (by kernel_rfl) (by kernel_rfl) ?_
    refine wl_mks (n := 1) (m := 1) (c := psc [t]) h5 9 (by kernel_rfl) (run_bs1 (u := t) (by kernel_rfl)) ?_
    intro q6 w7 h8
    refine wl_call (v := .string (ByteArray.mk (hmP ((k ++ Z)) (bl t)).toArray)) h8 (by kernel_rfl) enter10 #[.string (k ++ Z), .slice (some ⟨q6, 0, none⟩) 1 1] (by kernel_rfl) (ret_eq (hmacc ((k ++ Z)) (by rw [ByteArray.size_append, hZs]; omega) ([t]) 1 rfl (by decide) (some ⟨q6, 0, none⟩) 1 w7 (VV.below h8.old VV.big) (parts_ofc (h8.get 0 rfl)) (fun h => by cases h) (by show 0 + t.size ≤ _; omega)) (hm_one ((k ++ Z)) t)) ?_
    intro w9 h10
    refine wl_val (.string k) (by kernel_rfl) (by kernel_rfl) ?_
    refine wl_val (.string t) (by kernel_rfl) (by kernel_rfl) ?_
    refine wl_mks (n := 1) (m := 1) (c := psc [t]) h10 9 (by kernel_rfl) (run_bs1 (u := t) (by kernel_rfl)) ?_
    intro q11 w12 h13
    refine wl_call (v := .string (ByteArray.mk (hmP k (bl t)).toArray)) h13 (by kernel_rfl) enter10 #[.string k, .slice (some ⟨q11, 0, none⟩) 1 1] (by kernel_rfl) (ret_eq (hmacc k (by omega) ([t]) 1 rfl (by decide) (some ⟨q11, 0, none⟩) 1 w12 (VV.below h13.old VV.big) (parts_ofc (h13.get 0 rfl)) (fun h => by cases h) (by show 0 + t.size ≤ _; omega)) (hm_one k t)) ?_
    intro w14 h15
    refine wl_val (.bool true) (by kernel_rfl) (run_eqs (s := ByteArray.mk (hmP ((k ++ Z)) (bl t)).toArray) (t := ByteArray.mk (hmP k (bl t)).toArray) (by kernel_rfl) (by kernel_rfl) true (decide_eq_true (by unfold hmP; rw [hZ, kb_fill k (z % (65 - k.size)) (by omega)]))) ?_
    refine wl_val (.bool true) (by kernel_rfl) (by kernel_rfl) ?_
    refine wl_val (.string k) (by kernel_rfl) (by kernel_rfl) ?_
    refine wl_val (.string t) (by kernel_rfl) (by kernel_rfl) ?_
    refine wl_call (v := .string (ByteArray.mk (hmP k (bl t)).toArray)) h15 (by kernel_rfl) enter12 #[.string k, .string t] (by kernel_rfl) (extractc k (by omega) t (by omega) w14 (VV.below h15.old VV.big)) ?_
    intro w16 h17
    refine wl_val (.string k) (by kernel_rfl) (by kernel_rfl) ?_
    refine wl_val (.string t) (by kernel_rfl) (by kernel_rfl) ?_
    refine wl_mks (n := 1) (m := 1) (c := psc [t]) h17 9 (by kernel_rfl) (run_bs1 (u := t) (by kernel_rfl)) ?_
    intro q18 w19 h20
    refine wl_call (v := .string (ByteArray.mk (hmP k (bl t)).toArray)) h20 (by kernel_rfl) enter10 #[.string k, .slice (some ⟨q18, 0, none⟩) 1 1] (by kernel_rfl) (ret_eq (hmacc k (by omega) ([t]) 1 rfl (by decide) (some ⟨q18, 0, none⟩) 1 w19 (VV.below h20.old VV.big) (parts_ofc (h20.get 0 rfl)) (fun h => by cases h) (by show 0 + t.size ≤ _; omega)) (hm_one k t)) ?_
    intro w21 h22
    refine wl_val (.bool true) (by kernel_rfl) (run_eqs (s := ByteArray.mk (hmP k (bl t)).toArray) (t := ByteArray.mk (hmP k (bl t)).toArray) (by kernel_rfl) (by kernel_rfl) true (decide_eq_true rfl)) ?_
    refine wl_val (.bool true) (by kernel_rfl) (by kernel_rfl) ?_
    refine wl_val (.bool true) (by kernel_rfl) (by kernel_rfl) ?_
    refine wl_nil ?_
    refine then_at (F := ⟨(.string k :: .string t :: iN .u8 z :: un :: un :: un :: .bool true :: iN .i64 (z % (65 - k.size)) :: .bool true :: .bool false :: .string k :: iN .i64 k.size :: .bool false :: iN .u8 z :: iN .i64 z :: .string k :: iN .i64 k.size :: iN .i64 (65 - k.size) :: iN .i64 (z % (65 - k.size)) :: .string k :: iN .i64 (z % (65 - k.size)) :: .slice (some ⟨q3, 0, none⟩) (z % (65 - k.size)) (z % (65 - k.size)) :: .string Z :: .string (k ++ Z) :: .string t :: .slice (some ⟨q6, 0, none⟩) 1 1 :: .string (ByteArray.mk (hmP ((k ++ Z)) (bl t)).toArray) :: .string k :: .string t :: .slice (some ⟨q11, 0, none⟩) 1 1 :: .string (ByteArray.mk (hmP k (bl t)).toArray) :: .bool true :: .bool true :: .string k :: .string t :: .string (ByteArray.mk (hmP k (bl t)).toArray) :: .string k :: .string t :: .slice (some ⟨q18, 0, none⟩) 1 1 :: .string (ByteArray.mk (hmP k (bl t)).toArray) :: .bool true :: .bool true :: List.replicate 0 un).toArray, []⟩) (by kernel_rfl) ?_
    refine wp_ret ?_
    repeat first | refine then_ret ?_ | refine block_ret ?_
    exact bodyPost_ret (v := .bool true) (by kernel_rfl) rfl ⟨rfl, h22.old⟩
end Go.Proofs.YtmlldbkhphngeaaDoor
