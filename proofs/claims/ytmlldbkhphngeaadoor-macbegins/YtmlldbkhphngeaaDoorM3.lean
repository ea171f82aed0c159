/-
  what works tells; the reference's Hmac.
-/
import Derived.Test.YtmlldbkhphngeaaDoorM2
import Derived.Test.YtmlldbkhphngeaaDoorRs2
namespace Go.Proofs.YtmlldbkhphngeaaDoor
open Go.RowKit


def dJ : ByteArray := { data := #[91, 220, 193, 70, 191, 96, 117, 78, 106, 4, 36, 38, 8, 149, 117, 199, 90, 0, 63, 8, 157, 39, 57, 131, 157, 236, 88, 185, 100, 236, 56, 67] }
theorem dJ_eq : hmP { data := #[74, 101, 102, 101] } (catP [{ data := #[119, 104, 97, 116, 32, 100, 111, 32, 121, 97, 32, 119, 97, 110, 116, 32] }, { data := #[102, 111, 114, 32, 110, 111, 116, 104, 105, 110, 103, 63] }] 2) = bl dJ := by decide +kernel
theorem hJ_eq : hxP { data := #[53, 98, 100, 99, 99, 49, 52, 54, 98, 102, 54, 48, 55, 53, 52, 101, 54, 97, 48, 52, 50, 52, 50, 54, 48, 56, 57, 53, 55, 53, 99, 55, 53, 97, 48, 48, 51, 102, 48, 56, 57, 100, 50, 55, 51, 57, 56, 51, 57, 100, 101, 99, 53, 56, 98, 57, 54, 52, 101, 99, 51, 56, 52, 51] } (({ data := #[53, 98, 100, 99, 99, 49, 52, 54, 98, 102, 54, 48, 55, 53, 52, 101, 54, 97, 48, 52, 50, 52, 50, 54, 48, 56, 57, 53, 55, 53, 99, 55, 53, 97, 48, 48, 51, 102, 48, 56, 57, 100, 50, 55, 51, 57, 56, 51, 57, 100, 101, 99, 53, 56, 98, 57, 54, 52, 101, 99, 51, 56, 52, 51] } : ByteArray).size / 2) = bl dJ := by decide +kernel
theorem cp_put (l : List UInt8) (j : Nat) (h : j < l.length) (h2 : l.length ≤ 64) : (bc (l.take j ++ List.replicate (64 - j) 0)).setIfInBounds j (.int .u8 (((l.getD j 0).toNat : Nat) : Int)) = bc (l.take (j + 1) ++ List.replicate (64 - (j + 1)) 0) := by
  rw [List.take_succ_eq_append_getElem h, show l[j] = l.getD j 0 by rw [List.getD_eq_getElem?_getD, List.getElem?_eq_getElem h]; rfl]
  exact padb_put (l.take j) (64 - j) (64 - (j + 1)) j (l.getD j 0) (by rw [List.length_take]; omega) (by omega)
theorem cp_len (l : List UInt8) (j : Nat) (h : j ≤ l.length) (h2 : l.length ≤ 64) : (l.take j ++ List.replicate (64 - j) 0).length = 64 := by rw [padb_len, List.length_take]; omega
theorem kb_start (k K : ByteArray) (b : UInt8) (h : kyP k = bl K) : (bl K).take K.size ++ List.replicate (64 - K.size) 0 = xoP (kbP k) b 0 := by
  rw [xoP_zero, kbP, h, bl_len, List.take_of_length_le (by rw [bl_len]; exact Nat.le_refl _)]
theorem ky_yesR (k : ByteArray) (h : 64 < k.size) : kyP k = bl ⟨(digP KS (bl k)).toArray⟩ := by
  unfold kyP
  rw [if_pos h]
  rfl

set_option linter.unusedVariables false in
set_option maxRecDepth 100000 in
set_option maxHeartbeats 2000000 in
theorem worksc (w : World) (VV : Vars w) :
    Calls Tryd.prog 14 #[] w fun e w' => e = .returned (.bool true) ∧ Below w.heap.size w w' := by
  have H0 := HA.start w
  go_enter Tryd.func14, Tryd.ntmps14
  refine wp_seq ?_
  -- region 0
  refine wl_region ?_
  refine wl_val (.bool false) (by kernel_rfl) (by kernel_rfl) ?_
  refine wl_nil ?_
  refine then_at (F := ⟨(.bool false :: List.replicate 11 un).toArray, []⟩) (by kernel_rfl) ?_
  refine wp_seq ?_
  -- region 1
  refine wl_region ?_
  refine wl_mks (n := 2) (m := 2) (c := psc ([{ data := #[119, 104, 97, 116, 32, 100, 111, 32, 121, 97, 32, 119, 97, 110, 116, 32] }, { data := #[102, 111, 114, 32, 110, 111, 116, 104, 105, 110, 103, 63] }])) H0 9 (by kernel_rfl) (run_bs2 (u := { data := #[119, 104, 97, 116, 32, 100, 111, 32, 121, 97, 32, 119, 97, 110, 116, 32] }) (v := { data := #[102, 111, 114, 32, 110, 111, 116, 104, 105, 110, 103, 63] }) (by kernel_rfl) (by kernel_rfl)) ?_
  intro q1 w2 h3
  refine wl_call (v := .string dJ) h3 (by kernel_rfl) enter10 #[.string { data := #[74, 101, 102, 101] }, .slice (some ⟨q1, 0, none⟩) 2 2] (by kernel_rfl) (ret_eq (hmacc { data := #[74, 101, 102, 101] } (by decide) ([{ data := #[119, 104, 97, 116, 32, 100, 111, 32, 121, 97, 32, 119, 97, 110, 116, 32] }, { data := #[102, 111, 114, 32, 110, 111, 116, 104, 105, 110, 103, 63] }]) 2 rfl (by decide) (some ⟨q1, 0, none⟩) 2 w2 (VV.below h3.old VV.big) (parts_ofc (h3.get 0 rfl)) (fun h => by cases h) (by decide +kernel)) (bytes_eq dJ_eq)) ?_
  intro w4 h5
  refine wl_call (v := .string dJ) h5 (by kernel_rfl) enter18 #[.string { data := #[53, 98, 100, 99, 99, 49, 52, 54, 98, 102, 54, 48, 55, 53, 52, 101, 54, 97, 48, 52, 50, 52, 50, 54, 48, 56, 57, 53, 55, 53, 99, 55, 53, 97, 48, 48, 51, 102, 48, 56, 57, 100, 50, 55, 51, 57, 56, 51, 57, 100, 101, 99, 53, 56, 98, 57, 54, 52, 101, 99, 51, 56, 52, 51] }] (by kernel_rfl) (ret_eq (hexc { data := #[53, 98, 100, 99, 99, 49, 52, 54, 98, 102, 54, 48, 55, 53, 52, 101, 54, 97, 48, 52, 50, 52, 50, 54, 48, 56, 57, 53, 55, 53, 99, 55, 53, 97, 48, 48, 51, 102, 48, 56, 57, 100, 50, 55, 51, 57, 56, 51, 57, 100, 101, 99, 53, 56, 98, 57, 54, 52, 101, 99, 51, 56, 52, 51] } (by decide) w4) (bytes_eq hJ_eq)) ?_
  intro w6 h7
  refine wl_val (.bool true) (by kernel_rfl) (run_eqs (s := dJ) (t := dJ) (by kernel_rfl) (by kernel_rfl) true (by decide +kernel)) ?_
  refine wl_val (.bool true) (by kernel_rfl) (by kernel_rfl) ?_
  refine wl_call (v := .bool true) h7 (by kernel_rfl) enter17 #[.string { data := #[97] }, .string { data := #[97] }] (by kernel_rfl) (ret_eq (equalc { data := #[97] } { data := #[97] } (by decide) (by decide) w6) (congrArg Value.bool (by decide +kernel))) ?_
  intro w8 h9
  refine wl_val (.bool true) (by kernel_rfl) (by kernel_rfl) ?_
  refine wl_val (.bool true) (by kernel_rfl) (by kernel_rfl) ?_
  refine wl_call (v := .bool false) h9 (by kernel_rfl) enter17 #[.string { data := #[97] }, .string { data := #[98] }] (by kernel_rfl) (ret_eq (equalc { data := #[97] } { data := #[98] } (by decide) (by decide) w8) (congrArg Value.bool (by decide +kernel))) ?_
  intro w10 h11
  refine wl_val (.bool true) (by kernel_rfl) (by kernel_rfl) ?_
  refine wl_val (.bool true) (by kernel_rfl) (by kernel_rfl) ?_
  refine wl_val (.bool true) (by kernel_rfl) (by kernel_rfl) ?_
  refine wl_nil ?_
  refine then_at (F := ⟨(.bool true :: .slice (some ⟨q1, 0, none⟩) 2 2 :: .string dJ :: .string dJ :: .bool true :: .bool true :: .bool true :: .bool true :: .bool true :: .bool false :: .bool true :: .bool true :: List.replicate 0 un).toArray, []⟩) (by kernel_rfl) ?_
  refine wp_ret ?_
  repeat first | refine then_ret ?_ | refine block_ret ?_
  exact bodyPost_ret (v := .bool true) (by kernel_rfl) rfl ⟨rfl, h11.old⟩

set_option linter.unusedVariables false in
set_option maxRecDepth 100000 in
set_option maxHeartbeats 2000000 in
theorem blockR (k : ByteArray) (hk : k.size ≤ 2251799813685248) (b : UInt8) (w : World) :
    Calls Tryd.prog 25 #[.string k, by8 b] w fun e w' => e = .returned (.string ⟨(xbP (kbP k) b).toArray⟩) ∧ Below w.heap.size w w' := by
  have H0 := HA.start w
  go_enter Tryd.func25, Tryd.ntmps25
  refine wp_seq ?_
  -- region 0
  refine wl_region ?_
  refine wl_val (.string { data := #[] }) (by kernel_rfl) (by kernel_rfl) ?_
  refine wl_nil ?_
  refine then_at (F := ⟨(.string k :: by8 b :: un :: un :: .string { data := #[] } :: List.replicate 36 un).toArray, []⟩) (by kernel_rfl) ?_
  refine wp_seq ?_
  refine wp_seq ?_
  by_cases hc : 64 < k.size
  · have hK : (ByteArray.mk (digP KS (bl k)).toArray).size ≤ 64 := by rw [← bl_len, ← ky_yesR k hc]; exact kyP_le k
    -- region 1
    refine wl_region ?_
    refine wl_val (.string k) (by kernel_rfl) (by kernel_rfl) ?_
    refine wl_val (iN .i64 k.size) (by kernel_rfl) (run_len (s := k) (by kernel_rfl)) ?_
    refine wl_val (.bool true) (by kernel_rfl) (run_gtr (k := .i64) (a := k.size) (b := 64) (by kernel_rfl) (by kernel_rfl) true (decide_eq_true hc)) ?_
    refine wl_nil ?_
    refine then_at (F := ⟨(.string k :: by8 b :: un :: un :: .string { data := #[] } :: un :: un :: un :: .string k :: iN .i64 k.size :: .bool true :: List.replicate 30 un).toArray, []⟩) (by kernel_rfl) ?_
    refine wp_cond_true (by kernel_rfl) ?_
    -- region 2
    refine wl_region ?_
    refine wl_val (.string k) (by kernel_rfl) (by kernel_rfl) ?_
    refine wl_call (v := .string (ByteArray.mk (digP KS (bl k)).toArray)) H0 (by kernel_rfl) enter24 #[.string k] (by kernel_rfl) (shaRS k hk w) ?_
    intro w1 h2
    refine wl_val (.string (ByteArray.mk (digP KS (bl k)).toArray)) (by kernel_rfl) (by kernel_rfl) ?_
    refine wl_nil ?_
    refine then_at (F := ⟨(.string (ByteArray.mk (digP KS (bl k)).toArray) :: by8 b :: un :: un :: .string { data := #[] } :: un :: un :: un :: .string k :: iN .i64 k.size :: .bool true :: .string k :: .string (ByteArray.mk (digP KS (bl k)).toArray) :: List.replicate 28 un).toArray, []⟩) (by kernel_rfl) ?_
    refine wp_seq ?_
    -- region 3
    refine wl_region ?_
    refine wl_mks (n := 64) (m := 64) h2 5 (by kernel_rfl) (run_mk (k := .i64) (m := 64) (c := 64) (by kernel_rfl) (by kernel_rfl) (by decide) (by decide)) ?_
    intro q3 w4 h5
    refine wl_val (.slice (some ⟨q3, 0, none⟩) 64 64) (by kernel_rfl) (by kernel_rfl) ?_
    refine wl_nil ?_
    refine then_at (F := ⟨(.string (ByteArray.mk (digP KS (bl k)).toArray) :: by8 b :: un :: un :: .string { data := #[] } :: .slice (some ⟨q3, 0, none⟩) 64 64 :: un :: un :: .string k :: iN .i64 k.size :: .bool true :: .string k :: .string (ByteArray.mk (digP KS (bl k)).toArray) :: .slice (some ⟨q3, 0, none⟩) 64 64 :: List.replicate 27 un).toArray, []⟩) (by kernel_rfl) ?_
    refine wp_seq ?_
    refine wp_seq ?_
    -- region 4
    refine wl_region ?_
    refine wl_val (iN .i64 0) (by kernel_rfl) (by kernel_rfl) ?_
    refine wl_nil ?_
    refine then_at (F := ⟨(.string (ByteArray.mk (digP KS (bl k)).toArray) :: by8 b :: un :: un :: .string { data := #[] } :: .slice (some ⟨q3, 0, none⟩) 64 64 :: iN .i64 0 :: un :: .string k :: iN .i64 k.size :: .bool true :: .string k :: .string (ByteArray.mk (digP KS (bl k)).toArray) :: .slice (some ⟨q3, 0, none⟩) 64 64 :: List.replicate 27 un).toArray, []⟩) (by kernel_rfl) ?_
    refine wp_block ?_
    refine wp_count (fun j A w' => ∃ u6 : Nat → Value, A = ⟨(.string (ByteArray.mk (digP KS (bl k)).toArray) :: by8 b :: un :: un :: .string { data := #[] } :: .slice (some ⟨q3, 0, none⟩) 64 64 :: iN .i64 j :: un :: .string k :: iN .i64 k.size :: .bool true :: .string k :: .string (ByteArray.mk (digP KS (bl k)).toArray) :: .slice (some ⟨q3, 0, none⟩) 64 64 :: u6 14 :: u6 15 :: u6 16 :: u6 17 :: u6 18 :: u6 19 :: u6 20 :: u6 21 :: u6 22 :: u6 23 :: u6 24 :: u6 25 :: List.replicate 15 un).toArray, []⟩ ∧ HA w [(q3, 5, bc ((bl (ByteArray.mk (digP KS (bl k)).toArray)).take j ++ List.replicate (64 - j) 0))] w') ((ByteArray.mk (digP KS (bl k)).toArray).size) ?_ ?_ ?_
    · exact ⟨fun ii => (([(14, undef), (15, undef), (16, undef), (17, undef), (18, undef), (19, undef), (20, undef), (21, undef), (22, undef), (23, undef), (24, undef), (25, undef)] : List (Nat × Value)).find? (·.1 == ii)).elim undef (·.2), by kernel_rfl, (by rw [show (bl (ByteArray.mk (digP KS (bl k)).toArray)).take 0 ++ List.replicate (64 - 0) 0 = List.replicate 64 (0 : UInt8) by rw [List.take_zero]; rfl]; exact h5)⟩
    · rintro j hk _ w7 ⟨u6, rfl, h8⟩
      refine wp_seq ?_
      refine wp_seq ?_
      -- region 5
      refine wl_region ?_
      refine wl_val (iN .i64 j) (by kernel_rfl) (by kernel_rfl) ?_
      refine wl_val (.string (ByteArray.mk (digP KS (bl k)).toArray)) (by kernel_rfl) (by kernel_rfl) ?_
      refine wl_val (iN .i64 ((ByteArray.mk (digP KS (bl k)).toArray).size)) (by kernel_rfl) (run_len (s := ByteArray.mk (digP KS (bl k)).toArray) (by kernel_rfl)) ?_
      refine wl_val (.bool true) (by kernel_rfl) (run_lss (k := .i64) (a := j) (b := (ByteArray.mk (digP KS (bl k)).toArray).size) (by kernel_rfl) (by kernel_rfl) true (decide_eq_true (by omega))) ?_
      refine wl_nil ?_
      refine then_at (F := ⟨(.string (ByteArray.mk (digP KS (bl k)).toArray) :: by8 b :: un :: un :: .string { data := #[] } :: .slice (some ⟨q3, 0, none⟩) 64 64 :: iN .i64 j :: un :: .string k :: iN .i64 k.size :: .bool true :: .string k :: .string (ByteArray.mk (digP KS (bl k)).toArray) :: .slice (some ⟨q3, 0, none⟩) 64 64 :: iN .i64 j :: .string (ByteArray.mk (digP KS (bl k)).toArray) :: iN .i64 ((ByteArray.mk (digP KS (bl k)).toArray).size) :: .bool true :: u6 18 :: u6 19 :: u6 20 :: u6 21 :: u6 22 :: u6 23 :: u6 24 :: u6 25 :: List.replicate 15 un).toArray, []⟩) (by kernel_rfl) ?_
      refine wp_cond_true (by kernel_rfl) ?_
      refine wp_skip ?_
      refine then_at (F := ⟨(.string (ByteArray.mk (digP KS (bl k)).toArray) :: by8 b :: un :: un :: .string { data := #[] } :: .slice (some ⟨q3, 0, none⟩) 64 64 :: iN .i64 j :: un :: .string k :: iN .i64 k.size :: .bool true :: .string k :: .string (ByteArray.mk (digP KS (bl k)).toArray) :: .slice (some ⟨q3, 0, none⟩) 64 64 :: iN .i64 j :: .string (ByteArray.mk (digP KS (bl k)).toArray) :: iN .i64 ((ByteArray.mk (digP KS (bl k)).toArray).size) :: .bool true :: u6 18 :: u6 19 :: u6 20 :: u6 21 :: u6 22 :: u6 23 :: u6 24 :: u6 25 :: List.replicate 15 un).toArray, []⟩) (by kernel_rfl) ?_
      refine wp_seq ?_
      refine wp_block ?_
      -- region 7
      refine wl_region ?_
      refine wl_val (.slice (some ⟨q3, 0, none⟩) 64 64) (by kernel_rfl) (by kernel_rfl) ?_
      refine wl_val (iN .i64 j) (by kernel_rfl) (by kernel_rfl) ?_
      refine wl_val (.string (ByteArray.mk (digP KS (bl k)).toArray)) (by kernel_rfl) (by kernel_rfl) ?_
      refine wl_val (iN .i64 j) (by kernel_rfl) (by kernel_rfl) ?_
      refine wl_val (by8 ((bl (ByteArray.mk (digP KS (bl k)).toArray)).getD (j) 0)) (by kernel_rfl) (run_idx (s := ByteArray.mk (digP KS (bl k)).toArray) (k := .i64) (a := j) (by kernel_rfl) (by kernel_rfl) (by omega)) ?_
      refine wl_val (.pointer (some ⟨q3, j, none⟩)) (by kernel_rfl) (run_addr_slice (q := q3) (n := 64) (m := 64) (a := j) Tryd.underlying31 (fun w => Tryd.sizeOf5 w) (by kernel_rfl) (by kernel_rfl) (by omega)) ?_
      refine wl_put (k := .u8) (z := ((((bl (ByteArray.mk (digP KS (bl k)).toArray)).getD (j) 0).toNat : Nat) : Int)) h8 0 rfl j (by rw [bc_size, (cp_len (bl (ByteArray.mk (digP KS (bl k)).toArray)) j (by rw [bl_len]; omega) (by rw [bl_len]; omega))]; omega) (by kernel_rfl) (fun w => Tryd.sizeOf5 w) (by kernel_rfl) (by kernel_rfl) ?_
      intro w9 h10
      have h11 : HA w [(q3, 5, bc ((bl (ByteArray.mk (digP KS (bl k)).toArray)).take (j + 1) ++ List.replicate (64 - (j + 1)) 0))] w9 := by
        have e : (bc ((bl (ByteArray.mk (digP KS (bl k)).toArray)).take j ++ List.replicate (64 - j) 0)).setIfInBounds j (.int .u8 ((((bl (ByteArray.mk (digP KS (bl k)).toArray)).getD (j) 0).toNat : Nat) : Int)) = bc ((bl (ByteArray.mk (digP KS (bl k)).toArray)).take (j + 1) ++ List.replicate (64 - (j + 1)) 0) := (cp_put (bl (ByteArray.mk (digP KS (bl k)).toArray)) j (by rw [bl_len]; omega) (by rw [bl_len]; omega))
        rw [← e]; exact h10
      clear h10
      refine wl_nil ?_
      refine block_normal ?_
      refine then_at (F := ⟨(.string (ByteArray.mk (digP KS (bl k)).toArray) :: by8 b :: un :: un :: .string { data := #[] } :: .slice (some ⟨q3, 0, none⟩) 64 64 :: iN .i64 j :: un :: .string k :: iN .i64 k.size :: .bool true :: .string k :: .string (ByteArray.mk (digP KS (bl k)).toArray) :: .slice (some ⟨q3, 0, none⟩) 64 64 :: iN .i64 j :: .string (ByteArray.mk (digP KS (bl k)).toArray) :: iN .i64 ((ByteArray.mk (digP KS (bl k)).toArray).size) :: .bool true :: u6 18 :: u6 19 :: .slice (some ⟨q3, 0, none⟩) 64 64 :: iN .i64 j :: .string (ByteArray.mk (digP KS (bl k)).toArray) :: iN .i64 j :: by8 ((bl (ByteArray.mk (digP KS (bl k)).toArray)).getD (j) 0) :: .pointer (some ⟨q3, j, none⟩) :: List.replicate 15 un).toArray, []⟩) (by kernel_rfl) ?_
      -- region 6
      refine wl_region ?_
      refine wl_val (iN .i64 j) (by kernel_rfl) (by kernel_rfl) ?_
      refine wl_val (iN .i64 (j + 1)) (by kernel_rfl) (run_add (k := .i64) (a := j) (b := 1) (by kernel_rfl) (by kernel_rfl) (by simp only [top]; omega)) ?_
      refine wl_val (iN .i64 (j + 1)) (by kernel_rfl) (by kernel_rfl) ?_
      refine wl_nil ?_
      exact then_I ⟨fun ii => (([(14, iN .i64 j), (15, .string (ByteArray.mk (digP KS (bl k)).toArray)), (16, iN .i64 ((ByteArray.mk (digP KS (bl k)).toArray).size)), (17, .bool true), (18, iN .i64 j), (19, iN .i64 (j + 1)), (20, .slice (some ⟨q3, 0, none⟩) 64 64), (21, iN .i64 j), (22, .string (ByteArray.mk (digP KS (bl k)).toArray)), (23, iN .i64 j), (24, by8 ((bl (ByteArray.mk (digP KS (bl k)).toArray)).getD (j) 0)), (25, .pointer (some ⟨q3, j, none⟩))] : List (Nat × Value)).find? (·.1 == ii)).elim undef (·.2), by kernel_rfl, h11⟩
    · rintro _ w12 ⟨u6, rfl, h13⟩
      refine wp_seq ?_
      refine wp_seq ?_
      -- region 5
      refine wl_region ?_
      refine wl_val (iN .i64 ((ByteArray.mk (digP KS (bl k)).toArray).size)) (by kernel_rfl) (by kernel_rfl) ?_
      refine wl_val (.string (ByteArray.mk (digP KS (bl k)).toArray)) (by kernel_rfl) (by kernel_rfl) ?_
      refine wl_val (iN .i64 ((ByteArray.mk (digP KS (bl k)).toArray).size)) (by kernel_rfl) (run_len (s := ByteArray.mk (digP KS (bl k)).toArray) (by kernel_rfl)) ?_
      refine wl_val (.bool false) (by kernel_rfl) (run_lss (k := .i64) (a := (ByteArray.mk (digP KS (bl k)).toArray).size) (b := (ByteArray.mk (digP KS (bl k)).toArray).size) (by kernel_rfl) (by kernel_rfl) false (decide_eq_false (by omega))) ?_
      refine wl_nil ?_
      refine then_at (F := ⟨(.string (ByteArray.mk (digP KS (bl k)).toArray) :: by8 b :: un :: un :: .string { data := #[] } :: .slice (some ⟨q3, 0, none⟩) 64 64 :: iN .i64 ((ByteArray.mk (digP KS (bl k)).toArray).size) :: un :: .string k :: iN .i64 k.size :: .bool true :: .string k :: .string (ByteArray.mk (digP KS (bl k)).toArray) :: .slice (some ⟨q3, 0, none⟩) 64 64 :: iN .i64 ((ByteArray.mk (digP KS (bl k)).toArray).size) :: .string (ByteArray.mk (digP KS (bl k)).toArray) :: iN .i64 ((ByteArray.mk (digP KS (bl k)).toArray).size) :: .bool false :: u6 18 :: u6 19 :: u6 20 :: u6 21 :: u6 22 :: u6 23 :: u6 24 :: u6 25 :: List.replicate 15 un).toArray, []⟩) (by kernel_rfl) ?_
      refine wp_cond_false (by kernel_rfl) ?_
      refine wp_exit ?_
      repeat first | refine then_exit ?_ | refine block_exit ?_ | refine block_exit_ne (by decide) ?_
      refine then_at (F := ⟨(.string (ByteArray.mk (digP KS (bl k)).toArray) :: by8 b :: un :: un :: .string { data := #[] } :: .slice (some ⟨q3, 0, none⟩) 64 64 :: iN .i64 ((ByteArray.mk (digP KS (bl k)).toArray).size) :: un :: .string k :: iN .i64 k.size :: .bool true :: .string k :: .string (ByteArray.mk (digP KS (bl k)).toArray) :: .slice (some ⟨q3, 0, none⟩) 64 64 :: iN .i64 ((ByteArray.mk (digP KS (bl k)).toArray).size) :: .string (ByteArray.mk (digP KS (bl k)).toArray) :: iN .i64 ((ByteArray.mk (digP KS (bl k)).toArray).size) :: .bool false :: u6 18 :: u6 19 :: u6 20 :: u6 21 :: u6 22 :: u6 23 :: u6 24 :: u6 25 :: List.replicate 15 un).toArray, []⟩) (by kernel_rfl) ?_
      refine wp_seq ?_
      refine wp_seq ?_
      -- region 8
      refine wl_region ?_
      refine wl_val (iN .i64 0) (by kernel_rfl) (by kernel_rfl) ?_
      refine wl_nil ?_
      refine then_at (F := ⟨(.string (ByteArray.mk (digP KS (bl k)).toArray) :: by8 b :: un :: un :: .string { data := #[] } :: .slice (some ⟨q3, 0, none⟩) 64 64 :: iN .i64 ((ByteArray.mk (digP KS (bl k)).toArray).size) :: iN .i64 0 :: .string k :: iN .i64 k.size :: .bool true :: .string k :: .string (ByteArray.mk (digP KS (bl k)).toArray) :: .slice (some ⟨q3, 0, none⟩) 64 64 :: iN .i64 ((ByteArray.mk (digP KS (bl k)).toArray).size) :: .string (ByteArray.mk (digP KS (bl k)).toArray) :: iN .i64 ((ByteArray.mk (digP KS (bl k)).toArray).size) :: .bool false :: u6 18 :: u6 19 :: u6 20 :: u6 21 :: u6 22 :: u6 23 :: u6 24 :: u6 25 :: List.replicate 15 un).toArray, []⟩) (by kernel_rfl) ?_
      refine wp_block ?_
      refine wp_count (fun j A w' => ∃ u14 : Nat → Value, A = ⟨(.string (ByteArray.mk (digP KS (bl k)).toArray) :: by8 b :: un :: un :: .string { data := #[] } :: .slice (some ⟨q3, 0, none⟩) 64 64 :: iN .i64 ((ByteArray.mk (digP KS (bl k)).toArray).size) :: iN .i64 j :: .string k :: iN .i64 k.size :: .bool true :: .string k :: .string (ByteArray.mk (digP KS (bl k)).toArray) :: .slice (some ⟨q3, 0, none⟩) 64 64 :: iN .i64 ((ByteArray.mk (digP KS (bl k)).toArray).size) :: .string (ByteArray.mk (digP KS (bl k)).toArray) :: iN .i64 ((ByteArray.mk (digP KS (bl k)).toArray).size) :: .bool false :: u6 18 :: u6 19 :: u6 20 :: u6 21 :: u6 22 :: u6 23 :: u6 24 :: u6 25 :: u14 26 :: u14 27 :: u14 28 :: u14 29 :: u14 30 :: u14 31 :: u14 32 :: u14 33 :: u14 34 :: u14 35 :: u14 36 :: u14 37 :: u14 38 :: List.replicate 2 un).toArray, []⟩ ∧ HA w [(q3, 5, bc (xoP (kbP k) b j))] w') 64 ?_ ?_ ?_
      · exact ⟨fun ii => (([(26, undef), (27, undef), (28, undef), (29, undef), (30, undef), (31, undef), (32, undef), (33, undef), (34, undef), (35, undef), (36, undef), (37, undef), (38, undef)] : List (Nat × Value)).find? (·.1 == ii)).elim undef (·.2), by kernel_rfl, (by rw [← kb_start k (ByteArray.mk (digP KS (bl k)).toArray) b (ky_yesR k hc)]; exact h13)⟩
      · rintro j hk _ w15 ⟨u14, rfl, h16⟩
        refine wp_seq ?_
        refine wp_seq ?_
        -- region 9
        refine wl_region ?_
        refine wl_val (iN .i64 j) (by kernel_rfl) (by kernel_rfl) ?_
        refine wl_val (.bool true) (by kernel_rfl) (run_lss (k := .i64) (a := j) (b := 64) (by kernel_rfl) (by kernel_rfl) true (decide_eq_true (by omega))) ?_
        refine wl_nil ?_
        refine then_at (F := ⟨(.string (ByteArray.mk (digP KS (bl k)).toArray) :: by8 b :: un :: un :: .string { data := #[] } :: .slice (some ⟨q3, 0, none⟩) 64 64 :: iN .i64 ((ByteArray.mk (digP KS (bl k)).toArray).size) :: iN .i64 j :: .string k :: iN .i64 k.size :: .bool true :: .string k :: .string (ByteArray.mk (digP KS (bl k)).toArray) :: .slice (some ⟨q3, 0, none⟩) 64 64 :: iN .i64 ((ByteArray.mk (digP KS (bl k)).toArray).size) :: .string (ByteArray.mk (digP KS (bl k)).toArray) :: iN .i64 ((ByteArray.mk (digP KS (bl k)).toArray).size) :: .bool false :: u6 18 :: u6 19 :: u6 20 :: u6 21 :: u6 22 :: u6 23 :: u6 24 :: u6 25 :: iN .i64 j :: .bool true :: u14 28 :: u14 29 :: u14 30 :: u14 31 :: u14 32 :: u14 33 :: u14 34 :: u14 35 :: u14 36 :: u14 37 :: u14 38 :: List.replicate 2 un).toArray, []⟩) (by kernel_rfl) ?_
        refine wp_cond_true (by kernel_rfl) ?_
        refine wp_skip ?_
        refine then_at (F := ⟨(.string (ByteArray.mk (digP KS (bl k)).toArray) :: by8 b :: un :: un :: .string { data := #[] } :: .slice (some ⟨q3, 0, none⟩) 64 64 :: iN .i64 ((ByteArray.mk (digP KS (bl k)).toArray).size) :: iN .i64 j :: .string k :: iN .i64 k.size :: .bool true :: .string k :: .string (ByteArray.mk (digP KS (bl k)).toArray) :: .slice (some ⟨q3, 0, none⟩) 64 64 :: iN .i64 ((ByteArray.mk (digP KS (bl k)).toArray).size) :: .string (ByteArray.mk (digP KS (bl k)).toArray) :: iN .i64 ((ByteArray.mk (digP KS (bl k)).toArray).size) :: .bool false :: u6 18 :: u6 19 :: u6 20 :: u6 21 :: u6 22 :: u6 23 :: u6 24 :: u6 25 :: iN .i64 j :: .bool true :: u14 28 :: u14 29 :: u14 30 :: u14 31 :: u14 32 :: u14 33 :: u14 34 :: u14 35 :: u14 36 :: u14 37 :: u14 38 :: List.replicate 2 un).toArray, []⟩) (by kernel_rfl) ?_
        refine wp_seq ?_
        refine wp_block ?_
        -- region 11
        refine wl_region ?_
        refine wl_val (.slice (some ⟨q3, 0, none⟩) 64 64) (by kernel_rfl) (by kernel_rfl) ?_
        refine wl_val (iN .i64 j) (by kernel_rfl) (by kernel_rfl) ?_
        refine wl_val (.slice (some ⟨q3, 0, none⟩) 64 64) (by kernel_rfl) (by kernel_rfl) ?_
        refine wl_val (iN .i64 j) (by kernel_rfl) (by kernel_rfl) ?_
        refine wl_val (.pointer (some ⟨q3, j, none⟩)) (by kernel_rfl) (run_addr_slice (q := q3) (n := 64) (m := 64) (a := j) Tryd.underlying31 (fun w => Tryd.sizeOf5 w) (by kernel_rfl) (by kernel_rfl) (by omega)) ?_
        refine wl_val (by8 ((kbP k).getD j 0)) (by kernel_rfl) (run_load1 (fun w => Tryd.isAgg5 w) (by kernel_rfl) (((h16.get 0 rfl).cell j).trans (xoP_get (kbP k) b j (by rw [kbP_len]; omega)))) ?_
        refine wl_val (by8 b) (by kernel_rfl) (by kernel_rfl) ?_
        refine wl_val (by8 (((kbP k).getD j 0) ^^^ b)) (by kernel_rfl) (run_xorb (a := (kbP k).getD j 0) (b := b) (by kernel_rfl) (by kernel_rfl)) ?_
        refine wl_val (.pointer (some ⟨q3, j, none⟩)) (by kernel_rfl) (run_addr_slice (q := q3) (n := 64) (m := 64) (a := j) Tryd.underlying31 (fun w => Tryd.sizeOf5 w) (by kernel_rfl) (by kernel_rfl) (by omega)) ?_
        refine wl_put (k := .u8) (z := (((((kbP k).getD j 0) ^^^ b).toNat : Nat) : Int)) h16 0 rfl j (by rw [bc_size, (xoP_len (kbP k) b j 64 (kbP_len k))]; omega) (by kernel_rfl) (fun w => Tryd.sizeOf5 w) (by kernel_rfl) (by kernel_rfl) ?_
        intro w17 h18
        have h19 : HA w [(q3, 5, bc (xoP (kbP k) b (j + 1)))] w17 := by
          have e : (bc (xoP (kbP k) b j)).setIfInBounds j (.int .u8 (((((kbP k).getD j 0) ^^^ b).toNat : Nat) : Int)) = bc (xoP (kbP k) b (j + 1)) := (xoP_put (kbP k) b j (by rw [kbP_len]; omega))
          rw [← e]; exact h18
        clear h18
        refine wl_nil ?_
        refine block_normal ?_
        refine then_at (F := ⟨(.string (ByteArray.mk (digP KS (bl k)).toArray) :: by8 b :: un :: un :: .string { data := #[] } :: .slice (some ⟨q3, 0, none⟩) 64 64 :: iN .i64 ((ByteArray.mk (digP KS (bl k)).toArray).size) :: iN .i64 j :: .string k :: iN .i64 k.size :: .bool true :: .string k :: .string (ByteArray.mk (digP KS (bl k)).toArray) :: .slice (some ⟨q3, 0, none⟩) 64 64 :: iN .i64 ((ByteArray.mk (digP KS (bl k)).toArray).size) :: .string (ByteArray.mk (digP KS (bl k)).toArray) :: iN .i64 ((ByteArray.mk (digP KS (bl k)).toArray).size) :: .bool false :: u6 18 :: u6 19 :: u6 20 :: u6 21 :: u6 22 :: u6 23 :: u6 24 :: u6 25 :: iN .i64 j :: .bool true :: u14 28 :: u14 29 :: .slice (some ⟨q3, 0, none⟩) 64 64 :: iN .i64 j :: .slice (some ⟨q3, 0, none⟩) 64 64 :: iN .i64 j :: .pointer (some ⟨q3, j, none⟩) :: by8 ((kbP k).getD j 0) :: by8 b :: by8 (((kbP k).getD j 0) ^^^ b) :: .pointer (some ⟨q3, j, none⟩) :: List.replicate 2 un).toArray, []⟩) (by kernel_rfl) ?_
        -- region 10
        refine wl_region ?_
        refine wl_val (iN .i64 j) (by kernel_rfl) (by kernel_rfl) ?_
        refine wl_val (iN .i64 (j + 1)) (by kernel_rfl) (run_add (k := .i64) (a := j) (b := 1) (by kernel_rfl) (by kernel_rfl) (by simp only [top]; omega)) ?_
        refine wl_val (iN .i64 (j + 1)) (by kernel_rfl) (by kernel_rfl) ?_
        refine wl_nil ?_
        exact then_I ⟨fun ii => (([(26, iN .i64 j), (27, .bool true), (28, iN .i64 j), (29, iN .i64 (j + 1)), (30, .slice (some ⟨q3, 0, none⟩) 64 64), (31, iN .i64 j), (32, .slice (some ⟨q3, 0, none⟩) 64 64), (33, iN .i64 j), (34, .pointer (some ⟨q3, j, none⟩)), (35, by8 ((kbP k).getD j 0)), (36, by8 b), (37, by8 (((kbP k).getD j 0) ^^^ b)), (38, .pointer (some ⟨q3, j, none⟩))] : List (Nat × Value)).find? (·.1 == ii)).elim undef (·.2), by kernel_rfl, h19⟩
      · rintro _ w20 ⟨u14, rfl, h21⟩
        refine wp_seq ?_
        refine wp_seq ?_
        -- region 9
        refine wl_region ?_
        refine wl_val (iN .i64 64) (by kernel_rfl) (by kernel_rfl) ?_
        refine wl_val (.bool false) (by kernel_rfl) (run_lss (k := .i64) (a := 64) (b := 64) (by kernel_rfl) (by kernel_rfl) false (by decide)) ?_
        refine wl_nil ?_
        refine then_at (F := ⟨(.string (ByteArray.mk (digP KS (bl k)).toArray) :: by8 b :: un :: un :: .string { data := #[] } :: .slice (some ⟨q3, 0, none⟩) 64 64 :: iN .i64 ((ByteArray.mk (digP KS (bl k)).toArray).size) :: iN .i64 64 :: .string k :: iN .i64 k.size :: .bool true :: .string k :: .string (ByteArray.mk (digP KS (bl k)).toArray) :: .slice (some ⟨q3, 0, none⟩) 64 64 :: iN .i64 ((ByteArray.mk (digP KS (bl k)).toArray).size) :: .string (ByteArray.mk (digP KS (bl k)).toArray) :: iN .i64 ((ByteArray.mk (digP KS (bl k)).toArray).size) :: .bool false :: u6 18 :: u6 19 :: u6 20 :: u6 21 :: u6 22 :: u6 23 :: u6 24 :: u6 25 :: iN .i64 64 :: .bool false :: u14 28 :: u14 29 :: u14 30 :: u14 31 :: u14 32 :: u14 33 :: u14 34 :: u14 35 :: u14 36 :: u14 37 :: u14 38 :: List.replicate 2 un).toArray, []⟩) (by kernel_rfl) ?_
        refine wp_cond_false (by kernel_rfl) ?_
        refine wp_exit ?_
        repeat first | refine then_exit ?_ | refine block_exit ?_ | refine block_exit_ne (by decide) ?_
        refine then_at (F := ⟨(.string (ByteArray.mk (digP KS (bl k)).toArray) :: by8 b :: un :: un :: .string { data := #[] } :: .slice (some ⟨q3, 0, none⟩) 64 64 :: iN .i64 ((ByteArray.mk (digP KS (bl k)).toArray).size) :: iN .i64 64 :: .string k :: iN .i64 k.size :: .bool true :: .string k :: .string (ByteArray.mk (digP KS (bl k)).toArray) :: .slice (some ⟨q3, 0, none⟩) 64 64 :: iN .i64 ((ByteArray.mk (digP KS (bl k)).toArray).size) :: .string (ByteArray.mk (digP KS (bl k)).toArray) :: iN .i64 ((ByteArray.mk (digP KS (bl k)).toArray).size) :: .bool false :: u6 18 :: u6 19 :: u6 20 :: u6 21 :: u6 22 :: u6 23 :: u6 24 :: u6 25 :: iN .i64 64 :: .bool false :: u14 28 :: u14 29 :: u14 30 :: u14 31 :: u14 32 :: u14 33 :: u14 34 :: u14 35 :: u14 36 :: u14 37 :: u14 38 :: List.replicate 2 un).toArray, []⟩) (by kernel_rfl) ?_
        refine wp_seq ?_
        -- region 12
        refine wl_region ?_
        refine wl_val (.slice (some ⟨q3, 0, none⟩) 64 64) (by kernel_rfl) (by kernel_rfl) ?_
        refine wl_val (.string (⟨((xoP (kbP k) b 64).take 64).toArray⟩)) (by kernel_rfl) (run_textg (q := q3) (m := 64) (c := 64) (l := xoP (kbP k) b 64) (by kernel_rfl) (h21.get 0 rfl) (by rw [(xoP_len (kbP k) b 64 64 (kbP_len k))]; omega)) ?_
        refine wl_val (.string (⟨((xoP (kbP k) b 64).take 64).toArray⟩)) (by kernel_rfl) (by kernel_rfl) ?_
        refine wl_nil ?_
        refine then_at (F := ⟨(.string (ByteArray.mk (digP KS (bl k)).toArray) :: by8 b :: un :: un :: .string (⟨((xoP (kbP k) b 64).take 64).toArray⟩) :: .slice (some ⟨q3, 0, none⟩) 64 64 :: iN .i64 ((ByteArray.mk (digP KS (bl k)).toArray).size) :: iN .i64 64 :: .string k :: iN .i64 k.size :: .bool true :: .string k :: .string (ByteArray.mk (digP KS (bl k)).toArray) :: .slice (some ⟨q3, 0, none⟩) 64 64 :: iN .i64 ((ByteArray.mk (digP KS (bl k)).toArray).size) :: .string (ByteArray.mk (digP KS (bl k)).toArray) :: iN .i64 ((ByteArray.mk (digP KS (bl k)).toArray).size) :: .bool false :: u6 18 :: u6 19 :: u6 20 :: u6 21 :: u6 22 :: u6 23 :: u6 24 :: u6 25 :: iN .i64 64 :: .bool false :: u14 28 :: u14 29 :: u14 30 :: u14 31 :: u14 32 :: u14 33 :: u14 34 :: u14 35 :: u14 36 :: u14 37 :: u14 38 :: .slice (some ⟨q3, 0, none⟩) 64 64 :: .string (⟨((xoP (kbP k) b 64).take 64).toArray⟩) :: List.replicate 0 un).toArray, []⟩) (by kernel_rfl) ?_
        refine wp_ret ?_
        repeat first | refine then_ret ?_ | refine block_ret ?_
        exact bodyPost_ret (v := .string (⟨((xoP (kbP k) b 64).take 64).toArray⟩)) (by kernel_rfl) rfl ⟨by rw [xoP_end (kbP k) b 64 (kbP_len k), List.take_of_length_le (by rw [xbP_len, kbP_len]; exact Nat.le_refl _)], h21.old⟩
  · have hK : (k).size ≤ 64 := by rw [← bl_len, ← ky_no k hc]; exact kyP_le k
    -- region 1
    refine wl_region ?_
    refine wl_val (.string k) (by kernel_rfl) (by kernel_rfl) ?_
    refine wl_val (iN .i64 k.size) (by kernel_rfl) (run_len (s := k) (by kernel_rfl)) ?_
    refine wl_val (.bool false) (by kernel_rfl) (run_gtr (k := .i64) (a := k.size) (b := 64) (by kernel_rfl) (by kernel_rfl) false (decide_eq_false hc)) ?_
    refine wl_nil ?_
    refine then_at (F := ⟨(.string k :: by8 b :: un :: un :: .string { data := #[] } :: un :: un :: un :: .string k :: iN .i64 k.size :: .bool false :: List.replicate 30 un).toArray, []⟩) (by kernel_rfl) ?_
    refine wp_cond_false (by kernel_rfl) ?_
    refine wp_skip ?_
    refine then_at (F := ⟨(.string k :: by8 b :: un :: un :: .string { data := #[] } :: un :: un :: un :: .string k :: iN .i64 k.size :: .bool false :: List.replicate 30 un).toArray, []⟩) (by kernel_rfl) ?_
    refine wp_seq ?_
    -- region 3
    refine wl_region ?_
    refine wl_mks (n := 64) (m := 64) H0 5 (by kernel_rfl) (run_mk (k := .i64) (m := 64) (c := 64) (by kernel_rfl) (by kernel_rfl) (by decide) (by decide)) ?_
    intro q22 w23 h24
    refine wl_val (.slice (some ⟨q22, 0, none⟩) 64 64) (by kernel_rfl) (by kernel_rfl) ?_
    refine wl_nil ?_
    refine then_at (F := ⟨(.string k :: by8 b :: un :: un :: .string { data := #[] } :: .slice (some ⟨q22, 0, none⟩) 64 64 :: un :: un :: .string k :: iN .i64 k.size :: .bool false :: un :: un :: .slice (some ⟨q22, 0, none⟩) 64 64 :: List.replicate 27 un).toArray, []⟩) (by kernel_rfl) ?_
    refine wp_seq ?_
    refine wp_seq ?_
    -- region 4
    refine wl_region ?_
    refine wl_val (iN .i64 0) (by kernel_rfl) (by kernel_rfl) ?_
    refine wl_nil ?_
    refine then_at (F := ⟨(.string k :: by8 b :: un :: un :: .string { data := #[] } :: .slice (some ⟨q22, 0, none⟩) 64 64 :: iN .i64 0 :: un :: .string k :: iN .i64 k.size :: .bool false :: un :: un :: .slice (some ⟨q22, 0, none⟩) 64 64 :: List.replicate 27 un).toArray, []⟩) (by kernel_rfl) ?_
    refine wp_block ?_
    refine wp_count (fun j A w' => ∃ u25 : Nat → Value, A = ⟨(.string k :: by8 b :: un :: un :: .string { data := #[] } :: .slice (some ⟨q22, 0, none⟩) 64 64 :: iN .i64 j :: un :: .string k :: iN .i64 k.size :: .bool false :: un :: un :: .slice (some ⟨q22, 0, none⟩) 64 64 :: u25 14 :: u25 15 :: u25 16 :: u25 17 :: u25 18 :: u25 19 :: u25 20 :: u25 21 :: u25 22 :: u25 23 :: u25 24 :: u25 25 :: List.replicate 15 un).toArray, []⟩ ∧ HA w [(q22, 5, bc ((bl (k)).take j ++ List.replicate (64 - j) 0))] w') (k).size ?_ ?_ ?_
    · exact ⟨fun ii => (([(14, undef), (15, undef), (16, undef), (17, undef), (18, undef), (19, undef), (20, undef), (21, undef), (22, undef), (23, undef), (24, undef), (25, undef)] : List (Nat × Value)).find? (·.1 == ii)).elim undef (·.2), by kernel_rfl, (by rw [show (bl (k)).take 0 ++ List.replicate (64 - 0) 0 = List.replicate 64 (0 : UInt8) by rw [List.take_zero]; rfl]; exact h24)⟩
    · rintro j hk _ w26 ⟨u25, rfl, h27⟩
      refine wp_seq ?_
      refine wp_seq ?_
      -- region 5
      refine wl_region ?_
      refine wl_val (iN .i64 j) (by kernel_rfl) (by kernel_rfl) ?_
      refine wl_val (.string k) (by kernel_rfl) (by kernel_rfl) ?_
      refine wl_val (iN .i64 k.size) (by kernel_rfl) (run_len (s := k) (by kernel_rfl)) ?_
      refine wl_val (.bool true) (by kernel_rfl) (run_lss (k := .i64) (a := j) (b := k.size) (by kernel_rfl) (by kernel_rfl) true (decide_eq_true (by omega))) ?_
      refine wl_nil ?_
      refine then_at (F := ⟨(.string k :: by8 b :: un :: un :: .string { data := #[] } :: .slice (some ⟨q22, 0, none⟩) 64 64 :: iN .i64 j :: un :: .string k :: iN .i64 k.size :: .bool false :: un :: un :: .slice (some ⟨q22, 0, none⟩) 64 64 :: iN .i64 j :: .string k :: iN .i64 k.size :: .bool true :: u25 18 :: u25 19 :: u25 20 :: u25 21 :: u25 22 :: u25 23 :: u25 24 :: u25 25 :: List.replicate 15 un).toArray, []⟩) (by kernel_rfl) ?_
      refine wp_cond_true (by kernel_rfl) ?_
      refine wp_skip ?_
      refine then_at (F := ⟨(.string k :: by8 b :: un :: un :: .string { data := #[] } :: .slice (some ⟨q22, 0, none⟩) 64 64 :: iN .i64 j :: un :: .string k :: iN .i64 k.size :: .bool false :: un :: un :: .slice (some ⟨q22, 0, none⟩) 64 64 :: iN .i64 j :: .string k :: iN .i64 k.size :: .bool true :: u25 18 :: u25 19 :: u25 20 :: u25 21 :: u25 22 :: u25 23 :: u25 24 :: u25 25 :: List.replicate 15 un).toArray, []⟩) (by kernel_rfl) ?_
      refine wp_seq ?_
      refine wp_block ?_
      -- region 7
      refine wl_region ?_
      refine wl_val (.slice (some ⟨q22, 0, none⟩) 64 64) (by kernel_rfl) (by kernel_rfl) ?_
      refine wl_val (iN .i64 j) (by kernel_rfl) (by kernel_rfl) ?_
      refine wl_val (.string k) (by kernel_rfl) (by kernel_rfl) ?_
      refine wl_val (iN .i64 j) (by kernel_rfl) (by kernel_rfl) ?_
      refine wl_val (by8 ((bl k).getD (j) 0)) (by kernel_rfl) (run_idx (s := k) (k := .i64) (a := j) (by kernel_rfl) (by kernel_rfl) (by omega)) ?_
      refine wl_val (.pointer (some ⟨q22, j, none⟩)) (by kernel_rfl) (run_addr_slice (q := q22) (n := 64) (m := 64) (a := j) Tryd.underlying31 (fun w => Tryd.sizeOf5 w) (by kernel_rfl) (by kernel_rfl) (by omega)) ?_
      refine wl_put (k := .u8) (z := ((((bl k).getD (j) 0).toNat : Nat) : Int)) h27 0 rfl j (by rw [bc_size, (cp_len (bl (k)) j (by rw [bl_len]; omega) (by rw [bl_len]; omega))]; omega) (by kernel_rfl) (fun w => Tryd.sizeOf5 w) (by kernel_rfl) (by kernel_rfl) ?_
      intro w28 h29
      have h30 : HA w [(q22, 5, bc ((bl (k)).take (j + 1) ++ List.replicate (64 - (j + 1)) 0))] w28 := by
        have e : (bc ((bl (k)).take j ++ List.replicate (64 - j) 0)).setIfInBounds j (.int .u8 ((((bl k).getD (j) 0).toNat : Nat) : Int)) = bc ((bl (k)).take (j + 1) ++ List.replicate (64 - (j + 1)) 0) := (cp_put (bl (k)) j (by rw [bl_len]; omega) (by rw [bl_len]; omega))
        rw [← e]; exact h29
      clear h29
      refine wl_nil ?_
      refine block_normal ?_
      refine then_at (F := ⟨(.string k :: by8 b :: un :: un :: .string { data := #[] } :: .slice (some ⟨q22, 0, none⟩) 64 64 :: iN .i64 j :: un :: .string k :: iN .i64 k.size :: .bool false :: un :: un :: .slice (some ⟨q22, 0, none⟩) 64 64 :: iN .i64 j :: .string k :: iN .i64 k.size :: .bool true :: u25 18 :: u25 19 :: .slice (some ⟨q22, 0, none⟩) 64 64 :: iN .i64 j :: .string k :: iN .i64 j :: by8 ((bl k).getD (j) 0) :: .pointer (some ⟨q22, j, none⟩) :: List.replicate 15 un).toArray, []⟩) (by kernel_rfl) ?_
      -- region 6
      refine wl_region ?_
      refine wl_val (iN .i64 j) (by kernel_rfl) (by kernel_rfl) ?_
      refine wl_val (iN .i64 (j + 1)) (by kernel_rfl) (run_add (k := .i64) (a := j) (b := 1) (by kernel_rfl) (by kernel_rfl) (by simp only [top]; omega)) ?_
      refine wl_val (iN .i64 (j + 1)) (by kernel_rfl) (by kernel_rfl) ?_
      refine wl_nil ?_
      exact then_I ⟨fun ii => (([(14, iN .i64 j), (15, .string k), (16, iN .i64 k.size), (17, .bool true), (18, iN .i64 j), (19, iN .i64 (j + 1)), (20, .slice (some ⟨q22, 0, none⟩) 64 64), (21, iN .i64 j), (22, .string k), (23, iN .i64 j), (24, by8 ((bl k).getD (j) 0)), (25, .pointer (some ⟨q22, j, none⟩))] : List (Nat × Value)).find? (·.1 == ii)).elim undef (·.2), by kernel_rfl, h30⟩
    · rintro _ w31 ⟨u25, rfl, h32⟩
      refine wp_seq ?_
      refine wp_seq ?_
      -- region 5
      refine wl_region ?_
      refine wl_val (iN .i64 (k).size) (by kernel_rfl) (by kernel_rfl) ?_
      refine wl_val (.string k) (by kernel_rfl) (by kernel_rfl) ?_
      refine wl_val (iN .i64 k.size) (by kernel_rfl) (run_len (s := k) (by kernel_rfl)) ?_
      refine wl_val (.bool false) (by kernel_rfl) (run_lss (k := .i64) (a := (k).size) (b := k.size) (by kernel_rfl) (by kernel_rfl) false (decide_eq_false (by omega))) ?_
      refine wl_nil ?_
      refine then_at (F := ⟨(.string k :: by8 b :: un :: un :: .string { data := #[] } :: .slice (some ⟨q22, 0, none⟩) 64 64 :: iN .i64 (k).size :: un :: .string k :: iN .i64 k.size :: .bool false :: un :: un :: .slice (some ⟨q22, 0, none⟩) 64 64 :: iN .i64 (k).size :: .string k :: iN .i64 k.size :: .bool false :: u25 18 :: u25 19 :: u25 20 :: u25 21 :: u25 22 :: u25 23 :: u25 24 :: u25 25 :: List.replicate 15 un).toArray, []⟩) (by kernel_rfl) ?_
      refine wp_cond_false (by kernel_rfl) ?_
      refine wp_exit ?_
      repeat first | refine then_exit ?_ | refine block_exit ?_ | refine block_exit_ne (by decide) ?_
      refine then_at (F := ⟨(.string k :: by8 b :: un :: un :: .string { data := #[] } :: .slice (some ⟨q22, 0, none⟩) 64 64 :: iN .i64 (k).size :: un :: .string k :: iN .i64 k.size :: .bool false :: un :: un :: .slice (some ⟨q22, 0, none⟩) 64 64 :: iN .i64 (k).size :: .string k :: iN .i64 k.size :: .bool false :: u25 18 :: u25 19 :: u25 20 :: u25 21 :: u25 22 :: u25 23 :: u25 24 :: u25 25 :: List.replicate 15 un).toArray, []⟩) (by kernel_rfl) ?_
      refine wp_seq ?_
      refine wp_seq ?_
      -- region 8
      refine wl_region ?_
      refine wl_val (iN .i64 0) (by kernel_rfl) (by kernel_rfl) ?_
      refine wl_nil ?_
      refine then_at (F := ⟨(.string k :: by8 b :: un :: un :: .string { data := #[] } :: .slice (some ⟨q22, 0, none⟩) 64 64 :: iN .i64 (k).size :: iN .i64 0 :: .string k :: iN .i64 k.size :: .bool false :: un :: un :: .slice (some ⟨q22, 0, none⟩) 64 64 :: iN .i64 (k).size :: .string k :: iN .i64 k.size :: .bool false :: u25 18 :: u25 19 :: u25 20 :: u25 21 :: u25 22 :: u25 23 :: u25 24 :: u25 25 :: List.replicate 15 un).toArray, []⟩) (by kernel_rfl) ?_
      refine wp_block ?_
      refine wp_count (fun j A w' => ∃ u33 : Nat → Value, A = ⟨(.string k :: by8 b :: un :: un :: .string { data := #[] } :: .slice (some ⟨q22, 0, none⟩) 64 64 :: iN .i64 (k).size :: iN .i64 j :: .string k :: iN .i64 k.size :: .bool false :: un :: un :: .slice (some ⟨q22, 0, none⟩) 64 64 :: iN .i64 (k).size :: .string k :: iN .i64 k.size :: .bool false :: u25 18 :: u25 19 :: u25 20 :: u25 21 :: u25 22 :: u25 23 :: u25 24 :: u25 25 :: u33 26 :: u33 27 :: u33 28 :: u33 29 :: u33 30 :: u33 31 :: u33 32 :: u33 33 :: u33 34 :: u33 35 :: u33 36 :: u33 37 :: u33 38 :: List.replicate 2 un).toArray, []⟩ ∧ HA w [(q22, 5, bc (xoP (kbP k) b j))] w') 64 ?_ ?_ ?_
      · exact ⟨fun ii => (([(26, undef), (27, undef), (28, undef), (29, undef), (30, undef), (31, undef), (32, undef), (33, undef), (34, undef), (35, undef), (36, undef), (37, undef), (38, undef)] : List (Nat × Value)).find? (·.1 == ii)).elim undef (·.2), by kernel_rfl, (by rw [← kb_start k (k) b (ky_no k hc)]; exact h32)⟩
      · rintro j hk _ w34 ⟨u33, rfl, h35⟩
        refine wp_seq ?_
        refine wp_seq ?_
        -- region 9
        refine wl_region ?_
        refine wl_val (iN .i64 j) (by kernel_rfl) (by kernel_rfl) ?_
        refine wl_val (.bool true) (by kernel_rfl) (run_lss (k := .i64) (a := j) (b := 64) (by kernel_rfl) (by kernel_rfl) true (decide_eq_true (by omega))) ?_
        refine wl_nil ?_
        refine then_at (F := ⟨(.string k :: by8 b :: un :: un :: .string { data := #[] } :: .slice (some ⟨q22, 0, none⟩) 64 64 :: iN .i64 (k).size :: iN .i64 j :: .string k :: iN .i64 k.size :: .bool false :: un :: un :: .slice (some ⟨q22, 0, none⟩) 64 64 :: iN .i64 (k).size :: .string k :: iN .i64 k.size :: .bool false :: u25 18 :: u25 19 :: u25 20 :: u25 21 :: u25 22 :: u25 23 :: u25 24 :: u25 25 :: iN .i64 j :: .bool true :: u33 28 :: u33 29 :: u33 30 :: u33 31 :: u33 32 :: u33 33 :: u33 34 :: u33 35 :: u33 36 :: u33 37 :: u33 38 :: List.replicate 2 un).toArray, []⟩) (by kernel_rfl) ?_
        refine wp_cond_true (by kernel_rfl) ?_
        refine wp_skip ?_
        refine then_at (F := ⟨(.string k :: by8 b :: un :: un :: .string { data := #[] } :: .slice (some ⟨q22, 0, none⟩) 64 64 :: iN .i64 (k).size :: iN .i64 j :: .string k :: iN .i64 k.size :: .bool false :: un :: un :: .slice (some ⟨q22, 0, none⟩) 64 64 :: iN .i64 (k).size :: .string k :: iN .i64 k.size :: .bool false :: u25 18 :: u25 19 :: u25 20 :: u25 21 :: u25 22 :: u25 23 :: u25 24 :: u25 25 :: iN .i64 j :: .bool true :: u33 28 :: u33 29 :: u33 30 :: u33 31 :: u33 32 :: u33 33 :: u33 34 :: u33 35 :: u33 36 :: u33 37 :: u33 38 :: List.replicate 2 un).toArray, []⟩) (by kernel_rfl) ?_
        refine wp_seq ?_
        refine wp_block ?_
        -- region 11
        refine wl_region ?_
        refine wl_val (.slice (some ⟨q22, 0, none⟩) 64 64) (by kernel_rfl) (by kernel_rfl) ?_
        refine wl_val (iN .i64 j) (by kernel_rfl) (by kernel_rfl) ?_
        refine wl_val (.slice (some ⟨q22, 0, none⟩) 64 64) (by kernel_rfl) (by kernel_rfl) ?_
        refine wl_val (iN .i64 j) (by kernel_rfl) (by kernel_rfl) ?_
        refine wl_val (.pointer (some ⟨q22, j, none⟩)) (by kernel_rfl) (run_addr_slice (q := q22) (n := 64) (m := 64) (a := j) Tryd.underlying31 (fun w => Tryd.sizeOf5 w) (by kernel_rfl) (by kernel_rfl) (by omega)) ?_
        refine wl_val (by8 ((kbP k).getD j 0)) (by kernel_rfl) (run_load1 (fun w => Tryd.isAgg5 w) (by kernel_rfl) (((h35.get 0 rfl).cell j).trans (xoP_get (kbP k) b j (by rw [kbP_len]; omega)))) ?_
        refine wl_val (by8 b) (by kernel_rfl) (by kernel_rfl) ?_
        refine wl_val (by8 (((kbP k).getD j 0) ^^^ b)) (by kernel_rfl) (run_xorb (a := (kbP k).getD j 0) (b := b) (by kernel_rfl) (by kernel_rfl)) ?_
        refine wl_val (.pointer (some ⟨q22, j, none⟩)) (by kernel_rfl) (run_addr_slice (q := q22) (n := 64) (m := 64) (a := j) Tryd.underlying31 (fun w => Tryd.sizeOf5 w) (by kernel_rfl) (by kernel_rfl) (by omega)) ?_
        refine wl_put (k := .u8) (z := (((((kbP k).getD j 0) ^^^ b).toNat : Nat) : Int)) h35 0 rfl j (by rw [bc_size, (xoP_len (kbP k) b j 64 (kbP_len k))]; omega) (by kernel_rfl) (fun w => Tryd.sizeOf5 w) (by kernel_rfl) (by kernel_rfl) ?_
        intro w36 h37
        have h38 : HA w [(q22, 5, bc (xoP (kbP k) b (j + 1)))] w36 := by
          have e : (bc (xoP (kbP k) b j)).setIfInBounds j (.int .u8 (((((kbP k).getD j 0) ^^^ b).toNat : Nat) : Int)) = bc (xoP (kbP k) b (j + 1)) := (xoP_put (kbP k) b j (by rw [kbP_len]; omega))
          rw [← e]; exact h37
        clear h37
        refine wl_nil ?_
        refine block_normal ?_
        refine then_at (F := ⟨(.string k :: by8 b :: un :: un :: .string { data := #[] } :: .slice (some ⟨q22, 0, none⟩) 64 64 :: iN .i64 (k).size :: iN .i64 j :: .string k :: iN .i64 k.size :: .bool false :: un :: un :: .slice (some ⟨q22, 0, none⟩) 64 64 :: iN .i64 (k).size :: .string k :: iN .i64 k.size :: .bool false :: u25 18 :: u25 19 :: u25 20 :: u25 21 :: u25 22 :: u25 23 :: u25 24 :: u25 25 :: iN .i64 j :: .bool true :: u33 28 :: u33 29 :: .slice (some ⟨q22, 0, none⟩) 64 64 :: iN .i64 j :: .slice (some ⟨q22, 0, none⟩) 64 64 :: iN .i64 j :: .pointer (some ⟨q22, j, none⟩) :: by8 ((kbP k).getD j 0) :: by8 b :: by8 (((kbP k).getD j 0) ^^^ b) :: .pointer (some ⟨q22, j, none⟩) :: List.replicate 2 un).toArray, []⟩) (by kernel_rfl) ?_
        -- region 10
        refine wl_region ?_
        refine wl_val (iN .i64 j) (by kernel_rfl) (by kernel_rfl) ?_
        refine wl_val (iN .i64 (j + 1)) (by kernel_rfl) (run_add (k := .i64) (a := j) (b := 1) (by kernel_rfl) (by kernel_rfl) (by simp only [top]; omega)) ?_
        refine wl_val (iN .i64 (j + 1)) (by kernel_rfl) (by kernel_rfl) ?_
        refine wl_nil ?_
        exact then_I ⟨fun ii => (([(26, iN .i64 j), (27, .bool true), (28, iN .i64 j), (29, iN .i64 (j + 1)), (30, .slice (some ⟨q22, 0, none⟩) 64 64), (31, iN .i64 j), (32, .slice (some ⟨q22, 0, none⟩) 64 64), (33, iN .i64 j), (34, .pointer (some ⟨q22, j, none⟩)), (35, by8 ((kbP k).getD j 0)), (36, by8 b), (37, by8 (((kbP k).getD j 0) ^^^ b)), (38, .pointer (some ⟨q22, j, none⟩))] : List (Nat × Value)).find? (·.1 == ii)).elim undef (·.2), by kernel_rfl, h38⟩
      · rintro _ w39 ⟨u33, rfl, h40⟩
        refine wp_seq ?_
        refine wp_seq ?_
        -- region 9
        refine wl_region ?_
        refine wl_val (iN .i64 64) (by kernel_rfl) (by kernel_rfl) ?_
        refine wl_val (.bool false) (by kernel_rfl) (run_lss (k := .i64) (a := 64) (b := 64) (by kernel_rfl) (by kernel_rfl) false (by decide)) ?_
        refine wl_nil ?_
        refine then_at (F := ⟨(.string k :: by8 b :: un :: un :: .string { data := #[] } :: .slice (some ⟨q22, 0, none⟩) 64 64 :: iN .i64 (k).size :: iN .i64 64 :: .string k :: iN .i64 k.size :: .bool false :: un :: un :: .slice (some ⟨q22, 0, none⟩) 64 64 :: iN .i64 (k).size :: .string k :: iN .i64 k.size :: .bool false :: u25 18 :: u25 19 :: u25 20 :: u25 21 :: u25 22 :: u25 23 :: u25 24 :: u25 25 :: iN .i64 64 :: .bool false :: u33 28 :: u33 29 :: u33 30 :: u33 31 :: u33 32 :: u33 33 :: u33 34 :: u33 35 :: u33 36 :: u33 37 :: u33 38 :: List.replicate 2 un).toArray, []⟩) (by kernel_rfl) ?_
        refine wp_cond_false (by kernel_rfl) ?_
        refine wp_exit ?_
        repeat first | refine then_exit ?_ | refine block_exit ?_ | refine block_exit_ne (by decide) ?_
        refine then_at (F := ⟨(.string k :: by8 b :: un :: un :: .string { data := #[] } :: .slice (some ⟨q22, 0, none⟩) 64 64 :: iN .i64 (k).size :: iN .i64 64 :: .string k :: iN .i64 k.size :: .bool false :: un :: un :: .slice (some ⟨q22, 0, none⟩) 64 64 :: iN .i64 (k).size :: .string k :: iN .i64 k.size :: .bool false :: u25 18 :: u25 19 :: u25 20 :: u25 21 :: u25 22 :: u25 23 :: u25 24 :: u25 25 :: iN .i64 64 :: .bool false :: u33 28 :: u33 29 :: u33 30 :: u33 31 :: u33 32 :: u33 33 :: u33 34 :: u33 35 :: u33 36 :: u33 37 :: u33 38 :: List.replicate 2 un).toArray, []⟩) (by kernel_rfl) ?_
        refine wp_seq ?_
        -- region 12
        refine wl_region ?_
        refine wl_val (.slice (some ⟨q22, 0, none⟩) 64 64) (by kernel_rfl) (by kernel_rfl) ?_
        refine wl_val (.string (⟨((xoP (kbP k) b 64).take 64).toArray⟩)) (by kernel_rfl) (run_textg (q := q22) (m := 64) (c := 64) (l := xoP (kbP k) b 64) (by kernel_rfl) (h40.get 0 rfl) (by rw [(xoP_len (kbP k) b 64 64 (kbP_len k))]; omega)) ?_
        refine wl_val (.string (⟨((xoP (kbP k) b 64).take 64).toArray⟩)) (by kernel_rfl) (by kernel_rfl) ?_
        refine wl_nil ?_
        refine then_at (F := ⟨(.string k :: by8 b :: un :: un :: .string (⟨((xoP (kbP k) b 64).take 64).toArray⟩) :: .slice (some ⟨q22, 0, none⟩) 64 64 :: iN .i64 (k).size :: iN .i64 64 :: .string k :: iN .i64 k.size :: .bool false :: un :: un :: .slice (some ⟨q22, 0, none⟩) 64 64 :: iN .i64 (k).size :: .string k :: iN .i64 k.size :: .bool false :: u25 18 :: u25 19 :: u25 20 :: u25 21 :: u25 22 :: u25 23 :: u25 24 :: u25 25 :: iN .i64 64 :: .bool false :: u33 28 :: u33 29 :: u33 30 :: u33 31 :: u33 32 :: u33 33 :: u33 34 :: u33 35 :: u33 36 :: u33 37 :: u33 38 :: .slice (some ⟨q22, 0, none⟩) 64 64 :: .string (⟨((xoP (kbP k) b 64).take 64).toArray⟩) :: List.replicate 0 un).toArray, []⟩) (by kernel_rfl) ?_
        refine wp_ret ?_
        repeat first | refine then_ret ?_ | refine block_ret ?_
        exact bodyPost_ret (v := .string (⟨((xoP (kbP k) b 64).take 64).toArray⟩)) (by kernel_rfl) rfl ⟨by rw [xoP_end (kbP k) b 64 (kbP_len k), List.take_of_length_le (by rw [xbP_len, kbP_len]; exact Nat.le_refl _)], h40.old⟩

set_option linter.unusedVariables false in
set_option maxRecDepth 100000 in
set_option maxHeartbeats 2000000 in
theorem hmacR (k : ByteArray) (hk : k.size ≤ 2251799813685248) (t : ByteArray) (ht : t.size ≤ 1125899906842624) (w : World) :
    Calls Tryd.prog 11 #[.string k, .string t] w fun e w' => e = .returned (.string ⟨(hmP k (bl t)).toArray⟩) ∧ Below w.heap.size w w' := by
  have H0 := HA.start w
  go_enter Tryd.func11, Tryd.ntmps11
  refine wp_seq ?_
  -- region 0
  refine wl_region ?_
  refine wl_val (.string { data := #[] }) (by kernel_rfl) (by kernel_rfl) ?_
  refine wl_nil ?_
  refine then_at (F := ⟨(.string k :: .string t :: un :: un :: .string { data := #[] } :: List.replicate 9 un).toArray, []⟩) (by kernel_rfl) ?_
  refine wp_seq ?_
  -- region 1
  refine wl_region ?_
  refine wl_val (.string k) (by kernel_rfl) (by kernel_rfl) ?_
  refine wl_call (v := .string (ByteArray.mk (xbP (kbP k) 92).toArray)) H0 (by kernel_rfl) enter25 #[.string k, by8 92] (by kernel_rfl) (blockR k hk 92 w) ?_
  intro w1 h2
  refine wl_val (.string k) (by kernel_rfl) (by kernel_rfl) ?_
  refine wl_call (v := .string (ByteArray.mk (xbP (kbP k) 54).toArray)) h2 (by kernel_rfl) enter25 #[.string k, by8 54] (by kernel_rfl) (blockR k hk 54 w1) ?_
  intro w3 h4
  refine wl_val (.string t) (by kernel_rfl) (by kernel_rfl) ?_
  refine wl_val (.string (ByteArray.mk (xbP (kbP k) 54).toArray ++ t)) (by kernel_rfl) (run_cat (s := ByteArray.mk (xbP (kbP k) 54).toArray) (t := t) (by kernel_rfl) (by kernel_rfl) (by rw [sz_mk, xbP_len, kbP_len]; first | omega | (rw [sz_mk, digP_len]; decide))) ?_
  refine wl_call (v := .string (ByteArray.mk (digP KS (bl ((ByteArray.mk (xbP (kbP k) 54).toArray ++ t)))).toArray)) h4 (by kernel_rfl) enter24 #[.string (ByteArray.mk (xbP (kbP k) 54).toArray ++ t)] (by kernel_rfl) (shaRS ((ByteArray.mk (xbP (kbP k) 54).toArray ++ t)) (by rw [ByteArray.size_append, sz_mk, xbP_len, kbP_len]; first | omega | (rw [sz_mk, digP_len]; decide)) w3) ?_
  intro w5 h6
  refine wl_val (.string (ByteArray.mk (xbP (kbP k) 92).toArray ++ ByteArray.mk (digP KS (bl ((ByteArray.mk (xbP (kbP k) 54).toArray ++ t)))).toArray)) (by kernel_rfl) (run_cat (s := ByteArray.mk (xbP (kbP k) 92).toArray) (t := ByteArray.mk (digP KS (bl ((ByteArray.mk (xbP (kbP k) 54).toArray ++ t)))).toArray) (by kernel_rfl) (by kernel_rfl) (by rw [sz_mk, xbP_len, kbP_len]; first | omega | (rw [sz_mk, digP_len]; decide))) ?_
  refine wl_call (v := .string (ByteArray.mk (digP KS (bl ((ByteArray.mk (xbP (kbP k) 92).toArray ++ ByteArray.mk (digP KS (bl ((ByteArray.mk (xbP (kbP k) 54).toArray ++ t)))).toArray)))).toArray)) h6 (by kernel_rfl) enter24 #[.string (ByteArray.mk (xbP (kbP k) 92).toArray ++ ByteArray.mk (digP KS (bl ((ByteArray.mk (xbP (kbP k) 54).toArray ++ t)))).toArray)] (by kernel_rfl) (shaRS ((ByteArray.mk (xbP (kbP k) 92).toArray ++ ByteArray.mk (digP KS (bl ((ByteArray.mk (xbP (kbP k) 54).toArray ++ t)))).toArray)) (by rw [ByteArray.size_append, sz_mk, xbP_len, kbP_len]; first | omega | (rw [sz_mk, digP_len]; decide)) w5) ?_
  intro w7 h8
  refine wl_val (.string (ByteArray.mk (digP KS (bl ((ByteArray.mk (xbP (kbP k) 92).toArray ++ ByteArray.mk (digP KS (bl ((ByteArray.mk (xbP (kbP k) 54).toArray ++ t)))).toArray)))).toArray)) (by kernel_rfl) (by kernel_rfl) ?_
  refine wl_nil ?_
  refine then_at (F := ⟨(.string k :: .string t :: un :: un :: .string (ByteArray.mk (digP KS (bl ((ByteArray.mk (xbP (kbP k) 92).toArray ++ ByteArray.mk (digP KS (bl ((ByteArray.mk (xbP (kbP k) 54).toArray ++ t)))).toArray)))).toArray) :: .string k :: .string (ByteArray.mk (xbP (kbP k) 92).toArray) :: .string k :: .string (ByteArray.mk (xbP (kbP k) 54).toArray) :: .string t :: .string (ByteArray.mk (xbP (kbP k) 54).toArray ++ t) :: .string (ByteArray.mk (digP KS (bl ((ByteArray.mk (xbP (kbP k) 54).toArray ++ t)))).toArray) :: .string (ByteArray.mk (xbP (kbP k) 92).toArray ++ ByteArray.mk (digP KS (bl ((ByteArray.mk (xbP (kbP k) 54).toArray ++ t)))).toArray) :: .string (ByteArray.mk (digP KS (bl ((ByteArray.mk (xbP (kbP k) 92).toArray ++ ByteArray.mk (digP KS (bl ((ByteArray.mk (xbP (kbP k) 54).toArray ++ t)))).toArray)))).toArray) :: List.replicate 0 un).toArray, []⟩) (by kernel_rfl) ?_
  refine wp_ret ?_
  repeat first | refine then_ret ?_ | refine block_ret ?_
  exact bodyPost_ret (v := .string (ByteArray.mk (digP KS (bl ((ByteArray.mk (xbP (kbP k) 92).toArray ++ ByteArray.mk (digP KS (bl ((ByteArray.mk (xbP (kbP k) 54).toArray ++ t)))).toArray)))).toArray)) (by kernel_rfl) rfl ⟨by rw [bl_append, bl_append]; rfl, h8.old⟩

set_option linter.unusedVariables false in
set_option maxRecDepth 100000 in
set_option maxHeartbeats 2000000 in
theorem extractR (k : ByteArray) (hk : k.size ≤ 2251799813685248) (t : ByteArray) (ht : t.size ≤ 1125899906842624) (w : World) :
    Calls Tryd.prog 13 #[.string k, .string t] w fun e w' => e = .returned (.string ⟨(hmP k (bl t)).toArray⟩) ∧ Below w.heap.size w w' := by
  have H0 := HA.start w
  go_enter Tryd.func13, Tryd.ntmps13
  refine wp_seq ?_
  -- region 0
  refine wl_region ?_
  refine wl_val (.string { data := #[] }) (by kernel_rfl) (by kernel_rfl) ?_
  refine wl_nil ?_
  refine then_at (F := ⟨(.string k :: .string t :: un :: un :: .string { data := #[] } :: List.replicate 3 un).toArray, []⟩) (by kernel_rfl) ?_
  refine wp_seq ?_
  -- region 1
  refine wl_region ?_
  refine wl_val (.string k) (by kernel_rfl) (by kernel_rfl) ?_
  refine wl_val (.string t) (by kernel_rfl) (by kernel_rfl) ?_
  refine wl_call (v := .string (ByteArray.mk (hmP k (bl t)).toArray)) H0 (by kernel_rfl) enter11 #[.string k, .string t] (by kernel_rfl) (hmacR k hk t ht w) ?_
  intro w1 h2
  refine wl_val (.string (ByteArray.mk (hmP k (bl t)).toArray)) (by kernel_rfl) (by kernel_rfl) ?_
  refine wl_nil ?_
  refine then_at (F := ⟨(.string k :: .string t :: un :: un :: .string (ByteArray.mk (hmP k (bl t)).toArray) :: .string k :: .string t :: .string (ByteArray.mk (hmP k (bl t)).toArray) :: List.replicate 0 un).toArray, []⟩) (by kernel_rfl) ?_
  refine wp_ret ?_
  repeat first | refine then_ret ?_ | refine block_ret ?_
  exact bodyPost_ret (v := .string ⟨(hmP k (bl t)).toArray⟩) (by kernel_rfl) rfl ⟨rfl, h2.old⟩
end Go.Proofs.YtmlldbkhphngeaaDoor
