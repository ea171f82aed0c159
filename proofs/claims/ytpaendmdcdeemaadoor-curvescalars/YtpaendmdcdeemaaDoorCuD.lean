/-
  bit, clamped, withoutTop.
-/
import Derived.Test.YtpaendmdcdeemaaDoorCuC
namespace Go.Proofs.YtpaendmdcdeemaaDoor
open Go.RowKit Num


set_option linter.unusedVariables false in
set_option maxRecDepth 100000 in
set_option maxHeartbeats 2000000 in
theorem bit_any (s : ByteArray) (j : Nat) (hs : s.size = 32) (hj : j < 256) (w : World) :
    Calls Tryd.prog 62 #[.string s, iN .i64 j] w fun e w' => e = .returned (.bool (decide (numS s / 2 ^ j % 2 = 1))) ∧ Below w.heap.size w w' := by
  have H0 := HA.start w
  go_enter Tryd.func62, Tryd.ntmps62
  refine wp_seq ?_
  -- region 0
  refine wl_region ?_
  refine wl_val (.bool false) (by kernel_rfl) (by kernel_rfl) ?_
  refine wl_nil ?_
  refine then_at (F := ⟨(.string s :: iN .i64 j :: un :: un :: .bool false :: List.replicate 9 un).toArray, []⟩) (by kernel_rfl) ?_
  refine wp_seq ?_
  -- region 1
  refine wl_region ?_
  refine wl_val (.string s) (by kernel_rfl) (by kernel_rfl) ?_
  refine wl_val (iN .i64 j) (by kernel_rfl) (by kernel_rfl) ?_
  refine wl_val (iN .i64 (j / 8)) (by kernel_rfl) (run_quo (k := .i64) (a := j) (b := 8) (by kernel_rfl) (by kernel_rfl) (by omega) (by simp only [top]; omega)) ?_
  refine wl_val (iN .u8 (sb s (j / 8))) (by kernel_rfl) (run_sidx (s := s) (a := j / 8) (by kernel_rfl) (by kernel_rfl) (by omega)) ?_
  refine wl_val (iN .i64 j) (by kernel_rfl) (by kernel_rfl) ?_
  refine wl_val (iN .i64 (j % 8)) (by kernel_rfl) (run_rem (k := .i64) (a := j) (b := 8) (by kernel_rfl) (by kernel_rfl) (by omega)) ?_
  refine wl_val (iN .u8 ((sb s (j / 8)) / 2 ^ (j % 8))) (by kernel_rfl) (run_shr (k2 := .i64) (k := .u8) (a := sb s (j / 8)) (b := j % 8) (by kernel_rfl) (by kernel_rfl) (show j % 8 ≤ 8 by omega)) ?_
  refine wl_val (iN .u8 (((sb s (j / 8)) / 2 ^ (j % 8)) &&& 1)) (by kernel_rfl) (run_and8 (a := (sb s (j / 8)) / 2 ^ (j % 8)) (b := 1) (by kernel_rfl) (by kernel_rfl) (Nat.lt_of_le_of_lt (Nat.div_le_self _ _) (sb_lt s _)) (by decide)) ?_
  refine wl_val (.bool (decide ((((sb s (j / 8)) / 2 ^ (j % 8)) &&& 1) = 1))) (by kernel_rfl) (run_eqi (k := .u8) (a := ((sb s (j / 8)) / 2 ^ (j % 8)) &&& 1) (b := 1) (by kernel_rfl) (by kernel_rfl) _ rfl) ?_
  refine wl_val (.bool (decide ((((sb s (j / 8)) / 2 ^ (j % 8)) &&& 1) = 1))) (by kernel_rfl) (by kernel_rfl) ?_
  refine wl_nil ?_
  refine then_at (F := ⟨(.string s :: iN .i64 j :: un :: un :: .bool (decide ((((sb s (j / 8)) / 2 ^ (j % 8)) &&& 1) = 1)) :: .string s :: iN .i64 j :: iN .i64 (j / 8) :: iN .u8 (sb s (j / 8)) :: iN .i64 j :: iN .i64 (j % 8) :: iN .u8 ((sb s (j / 8)) / 2 ^ (j % 8)) :: iN .u8 (((sb s (j / 8)) / 2 ^ (j % 8)) &&& 1) :: .bool (decide ((((sb s (j / 8)) / 2 ^ (j % 8)) &&& 1) = 1)) :: List.replicate 0 un).toArray, []⟩) (by kernel_rfl) ?_
  refine wp_ret ?_
  repeat first | refine then_ret ?_ | refine block_ret ?_
  exact bodyPost_ret (v := .bool (decide ((sb s (j / 8) / 2 ^ (j % 8) &&& 1) = 1))) (by kernel_rfl) rfl ⟨by rw [bit_of s j], H0.old⟩

/-- the text without its highest bit -/
def topS (s : ByteArray) : ByteArray := ⟨((bl s).set 31 (UInt8.ofNat (((bl s).getD 31 0).toNat &&& 127))).toArray⟩
def clampL (l : List UInt8) : List UInt8 := (l.set 0 (UInt8.ofNat ((l.getD 0 0).toNat &&& 248))).set 31 (UInt8.ofNat (((l.set 0 (UInt8.ofNat ((l.getD 0 0).toNat &&& 248))).getD 31 0).toNat &&& 127 ||| 64))
def clampS (s : ByteArray) : ByteArray := ⟨(clampL (bl s)).toArray⟩

set_option linter.unusedVariables false in
set_option maxRecDepth 100000 in
set_option maxHeartbeats 2000000 in
theorem clamped_any (s : ByteArray) (hs : s.size = 32) (w : World) :
    Calls Tryd.prog 64 #[.string s] w fun e w' => e = .returned (.string (clampS s)) ∧ Below w.heap.size w w' := by
  have hls : ∀ {i : Nat}, i < 32 → i < (bl s).length := fun h => by rw [bl_len, hs]; exact h
  have H0 := HA.start w
  go_enter Tryd.func64, Tryd.ntmps64
  refine wp_seq ?_
  -- region 0
  refine wl_region ?_
  refine wl_val (.string { data := #[] }) (by kernel_rfl) (by kernel_rfl) ?_
  refine wl_nil ?_
  refine then_at (F := ⟨(.string s :: un :: .string { data := #[] } :: List.replicate 17 un).toArray, []⟩) (by kernel_rfl) ?_
  refine wp_seq ?_
  -- region 1
  refine wl_region ?_
  refine wl_val (.string s) (by kernel_rfl) (by kernel_rfl) ?_
  refine wl_bytes (s := s) H0 (by kernel_rfl) (by kernel_rfl) ?_
  intro q1 cp2 m3 w4 h5
  refine wl_val (.slice (some ⟨q1, 0, none⟩) s.size cp2) (by kernel_rfl) (by kernel_rfl) ?_
  refine wl_nil ?_
  refine then_at (F := ⟨(.string s :: un :: .string { data := #[] } :: .slice (some ⟨q1, 0, none⟩) s.size cp2 :: .string s :: .slice (some ⟨q1, 0, none⟩) s.size cp2 :: List.replicate 14 un).toArray, []⟩) (by kernel_rfl) ?_
  refine wp_seq ?_
  -- region 2
  refine wl_region ?_
  refine wl_val (.slice (some ⟨q1, 0, none⟩) s.size cp2) (by kernel_rfl) (by kernel_rfl) ?_
  refine wl_val (.pointer (some ⟨q1, 0, none⟩)) (by kernel_rfl) (run_addr_slice (q := q1) (n := s.size) (m := cp2) (a := 0) Tryd.underlying60 (fun w => Tryd.sizeOf5 w) (by kernel_rfl) (by kernel_rfl) (by omega)) ?_
  refine wl_val (iN .u8 (((bl s).getD 0 0).toNat)) (by kernel_rfl) (run_load1 (fun w => Tryd.isAgg5 w) (by kernel_rfl) (((h5.get 0 rfl).cell 0).trans (byC_get (bl s) m3 0 (hls (i := 0) (by decide))))) ?_
  refine wl_val (iN .u8 ((((bl s).getD 0 0).toNat) &&& 248)) (by kernel_rfl) (run_andnot8 (a := ((bl s).getD 0 0).toNat) (b := 7) an7 (by kernel_rfl) (by kernel_rfl) (u8_lt _)) ?_
  refine wl_val (.pointer (some ⟨q1, 0, none⟩)) (by kernel_rfl) (run_addr_slice (q := q1) (n := s.size) (m := cp2) (a := 0) Tryd.underlying60 (fun w => Tryd.sizeOf5 w) (by kernel_rfl) (by kernel_rfl) (by omega)) ?_
  refine wl_put (k := .u8) (z := (((((bl s).getD 0 0).toNat) &&& 248 : Nat) : Int)) h5 0 rfl 0 (by rw [byC_size]; exact Nat.lt_add_right _ (hls (i := 0) (by decide))) (by kernel_rfl) (fun w => Tryd.sizeOf5 w) (by kernel_rfl) (by kernel_rfl) ?_
  intro w6 h7
  have h8 : HA w [(q1, 5, byC ((bl s).set 0 (UInt8.ofNat ((((bl s).getD 0 0).toNat) &&& 248))) m3)] w6 := (by rw [← byC_put (bl s) m3 0 ((((bl s).getD 0 0).toNat) &&& 248) (hls (i := 0) (by decide)) (Nat.lt_of_le_of_lt Nat.and_le_left (u8_lt _))]; exact h7)
  clear h7
  refine wl_nil ?_
  refine then_at (F := ⟨(.string s :: un :: .string { data := #[] } :: .slice (some ⟨q1, 0, none⟩) s.size cp2 :: .string s :: .slice (some ⟨q1, 0, none⟩) s.size cp2 :: .slice (some ⟨q1, 0, none⟩) s.size cp2 :: pt q1 :: iN .u8 (((bl s).getD 0 0).toNat) :: iN .u8 ((((bl s).getD 0 0).toNat) &&& 248) :: pt q1 :: List.replicate 9 un).toArray, []⟩) (by kernel_rfl) ?_
  refine wp_seq ?_
  -- region 3
  refine wl_region ?_
  refine wl_val (.slice (some ⟨q1, 0, none⟩) s.size cp2) (by kernel_rfl) (by kernel_rfl) ?_
  refine wl_val (.slice (some ⟨q1, 0, none⟩) s.size cp2) (by kernel_rfl) (by kernel_rfl) ?_
  refine wl_val (.pointer (some ⟨q1, 31, none⟩)) (by kernel_rfl) (run_addr_slice (q := q1) (n := s.size) (m := cp2) (a := 31) Tryd.underlying60 (fun w => Tryd.sizeOf5 w) (by kernel_rfl) (by kernel_rfl) (by omega)) ?_
  refine wl_val (iN .u8 ((((bl s).set 0 (UInt8.ofNat ((((bl s).getD 0 0).toNat) &&& 248))).getD 31 0).toNat)) (by kernel_rfl) (run_load1 (fun w => Tryd.isAgg5 w) (by kernel_rfl) (((h8.get 0 rfl).cell 31).trans (byC_get ((bl s).set 0 (UInt8.ofNat ((((bl s).getD 0 0).toNat) &&& 248))) m3 31 (by rw [List.length_set]; exact (hls (i := 31) (by decide)))))) ?_
  refine wl_val (iN .u8 (((((bl s).set 0 (UInt8.ofNat ((((bl s).getD 0 0).toNat) &&& 248))).getD 31 0).toNat) &&& 127)) (by kernel_rfl) (run_andnot8 (a := (((bl s).set 0 (UInt8.ofNat ((((bl s).getD 0 0).toNat) &&& 248))).getD 31 0).toNat) (b := 128) an128 (by kernel_rfl) (by kernel_rfl) (u8_lt _)) ?_
  refine wl_val (iN .u8 ((((((bl s).set 0 (UInt8.ofNat ((((bl s).getD 0 0).toNat) &&& 248))).getD 31 0).toNat) &&& 127) ||| 64)) (by kernel_rfl) (run_or8 (a := ((((bl s).set 0 (UInt8.ofNat ((((bl s).getD 0 0).toNat) &&& 248))).getD 31 0).toNat) &&& 127) (b := 64) (by kernel_rfl) (by kernel_rfl) (Nat.lt_of_le_of_lt Nat.and_le_left (u8_lt _)) (by decide)) ?_
  refine wl_val (.pointer (some ⟨q1, 31, none⟩)) (by kernel_rfl) (run_addr_slice (q := q1) (n := s.size) (m := cp2) (a := 31) Tryd.underlying60 (fun w => Tryd.sizeOf5 w) (by kernel_rfl) (by kernel_rfl) (by omega)) ?_
  refine wl_put (k := .u8) (z := (((((((bl s).set 0 (UInt8.ofNat ((((bl s).getD 0 0).toNat) &&& 248))).getD 31 0).toNat) &&& 127) ||| 64 : Nat) : Int)) h8 0 rfl 31 (by rw [byC_size]; exact Nat.lt_add_right _ (by rw [List.length_set]; exact (hls (i := 31) (by decide)))) (by kernel_rfl) (fun w => Tryd.sizeOf5 w) (by kernel_rfl) (by kernel_rfl) ?_
  intro w9 h10
  have h11 : HA w [(q1, 5, byC (((bl s).set 0 (UInt8.ofNat ((((bl s).getD 0 0).toNat) &&& 248))).set 31 (UInt8.ofNat ((((((bl s).set 0 (UInt8.ofNat ((((bl s).getD 0 0).toNat) &&& 248))).getD 31 0).toNat) &&& 127) ||| 64))) m3)] w9 := (by rw [← byC_put ((bl s).set 0 (UInt8.ofNat ((((bl s).getD 0 0).toNat) &&& 248))) m3 31 ((((((bl s).set 0 (UInt8.ofNat ((((bl s).getD 0 0).toNat) &&& 248))).getD 31 0).toNat) &&& 127) ||| 64) (by rw [List.length_set]; exact (hls (i := 31) (by decide))) (Nat.or_lt_two_pow (n := 8) (Nat.lt_of_le_of_lt Nat.and_le_left (u8_lt _)) (by decide))]; exact h10)
  clear h10
  refine wl_nil ?_
  refine then_at (F := ⟨(.string s :: un :: .string { data := #[] } :: .slice (some ⟨q1, 0, none⟩) s.size cp2 :: .string s :: .slice (some ⟨q1, 0, none⟩) s.size cp2 :: .slice (some ⟨q1, 0, none⟩) s.size cp2 :: pt q1 :: iN .u8 (((bl s).getD 0 0).toNat) :: iN .u8 ((((bl s).getD 0 0).toNat) &&& 248) :: pt q1 :: .slice (some ⟨q1, 0, none⟩) s.size cp2 :: .slice (some ⟨q1, 0, none⟩) s.size cp2 :: .pointer (some ⟨q1, 31, none⟩) :: iN .u8 ((((bl s).set 0 (UInt8.ofNat ((((bl s).getD 0 0).toNat) &&& 248))).getD 31 0).toNat) :: iN .u8 (((((bl s).set 0 (UInt8.ofNat ((((bl s).getD 0 0).toNat) &&& 248))).getD 31 0).toNat) &&& 127) :: iN .u8 ((((((bl s).set 0 (UInt8.ofNat ((((bl s).getD 0 0).toNat) &&& 248))).getD 31 0).toNat) &&& 127) ||| 64) :: .pointer (some ⟨q1, 31, none⟩) :: List.replicate 2 un).toArray, []⟩) (by kernel_rfl) ?_
  refine wp_seq ?_
  -- region 4
  refine wl_region ?_
  refine wl_val (.slice (some ⟨q1, 0, none⟩) s.size cp2) (by kernel_rfl) (by kernel_rfl) ?_
  refine wl_val (.string ⟨(((bl s).set 0 (UInt8.ofNat ((((bl s).getD 0 0).toNat) &&& 248))).set 31 (UInt8.ofNat ((((((bl s).set 0 (UInt8.ofNat ((((bl s).getD 0 0).toNat) &&& 248))).getD 31 0).toNat) &&& 127) ||| 64))).toArray⟩) (by kernel_rfl) (run_byText (n := s.size) (c := cp2) (m := m3) (l := ((bl s).set 0 (UInt8.ofNat ((((bl s).getD 0 0).toNat) &&& 248))).set 31 (UInt8.ofNat ((((((bl s).set 0 (UInt8.ofNat ((((bl s).getD 0 0).toNat) &&& 248))).getD 31 0).toNat) &&& 127) ||| 64))) (by simp only [List.length_set, bl_len]) (by kernel_rfl) (h11.get 0 rfl)) ?_
  refine wl_val (.string ⟨(((bl s).set 0 (UInt8.ofNat ((((bl s).getD 0 0).toNat) &&& 248))).set 31 (UInt8.ofNat ((((((bl s).set 0 (UInt8.ofNat ((((bl s).getD 0 0).toNat) &&& 248))).getD 31 0).toNat) &&& 127) ||| 64))).toArray⟩) (by kernel_rfl) (by kernel_rfl) ?_
  refine wl_nil ?_
  refine then_at (F := ⟨(.string s :: un :: .string ⟨(((bl s).set 0 (UInt8.ofNat ((((bl s).getD 0 0).toNat) &&& 248))).set 31 (UInt8.ofNat ((((((bl s).set 0 (UInt8.ofNat ((((bl s).getD 0 0).toNat) &&& 248))).getD 31 0).toNat) &&& 127) ||| 64))).toArray⟩ :: .slice (some ⟨q1, 0, none⟩) s.size cp2 :: .string s :: .slice (some ⟨q1, 0, none⟩) s.size cp2 :: .slice (some ⟨q1, 0, none⟩) s.size cp2 :: pt q1 :: iN .u8 (((bl s).getD 0 0).toNat) :: iN .u8 ((((bl s).getD 0 0).toNat) &&& 248) :: pt q1 :: .slice (some ⟨q1, 0, none⟩) s.size cp2 :: .slice (some ⟨q1, 0, none⟩) s.size cp2 :: .pointer (some ⟨q1, 31, none⟩) :: iN .u8 ((((bl s).set 0 (UInt8.ofNat ((((bl s).getD 0 0).toNat) &&& 248))).getD 31 0).toNat) :: iN .u8 (((((bl s).set 0 (UInt8.ofNat ((((bl s).getD 0 0).toNat) &&& 248))).getD 31 0).toNat) &&& 127) :: iN .u8 ((((((bl s).set 0 (UInt8.ofNat ((((bl s).getD 0 0).toNat) &&& 248))).getD 31 0).toNat) &&& 127) ||| 64) :: .pointer (some ⟨q1, 31, none⟩) :: .slice (some ⟨q1, 0, none⟩) s.size cp2 :: .string ⟨(((bl s).set 0 (UInt8.ofNat ((((bl s).getD 0 0).toNat) &&& 248))).set 31 (UInt8.ofNat ((((((bl s).set 0 (UInt8.ofNat ((((bl s).getD 0 0).toNat) &&& 248))).getD 31 0).toNat) &&& 127) ||| 64))).toArray⟩ :: List.replicate 0 un).toArray, []⟩) (by kernel_rfl) ?_
  refine wp_ret ?_
  repeat first | refine then_ret ?_ | refine block_ret ?_
  exact bodyPost_ret (v := .string (clampS s)) (by kernel_rfl) rfl ⟨rfl, h11.old⟩

set_option linter.unusedVariables false in
set_option maxRecDepth 100000 in
set_option maxHeartbeats 2000000 in
theorem withoutTop_any (s : ByteArray) (hs : s.size = 32) (w : World) :
    Calls Tryd.prog 37 #[.string s] w fun e w' => e = .returned (.tuple #[.string (topS s), .bool (decide (numS s / 2 ^ 255 % 2 = 1))]) ∧ Below w.heap.size w w' := by
  have hls : ∀ {i : Nat}, i < 32 → i < (bl s).length := fun h => by rw [bl_len, hs]; exact h
  have H0 := HA.start w
  go_enter Tryd.func37, Tryd.ntmps37
  refine wp_seq ?_
  -- region 0
  refine wl_region ?_
  refine wl_val (.string { data := #[] }) (by kernel_rfl) (by kernel_rfl) ?_
  refine wl_val (.bool false) (by kernel_rfl) (by kernel_rfl) ?_
  refine wl_nil ?_
  refine then_at (F := ⟨(.string s :: un :: .string { data := #[] } :: .bool false :: List.replicate 12 un).toArray, []⟩) (by kernel_rfl) ?_
  refine wp_seq ?_
  -- region 1
  refine wl_region ?_
  refine wl_val (.string s) (by kernel_rfl) (by kernel_rfl) ?_
  refine wl_bytes (s := s) H0 (by kernel_rfl) (by kernel_rfl) ?_
  intro q1 cp2 m3 w4 h5
  refine wl_val (.slice (some ⟨q1, 0, none⟩) s.size cp2) (by kernel_rfl) (by kernel_rfl) ?_
  refine wl_nil ?_
  refine then_at (F := ⟨(.string s :: un :: .string { data := #[] } :: .bool false :: .slice (some ⟨q1, 0, none⟩) s.size cp2 :: .string s :: .slice (some ⟨q1, 0, none⟩) s.size cp2 :: List.replicate 9 un).toArray, []⟩) (by kernel_rfl) ?_
  refine wp_seq ?_
  -- region 2
  refine wl_region ?_
  refine wl_val (.slice (some ⟨q1, 0, none⟩) s.size cp2) (by kernel_rfl) (by kernel_rfl) ?_
  refine wl_val (.pointer (some ⟨q1, 31, none⟩)) (by kernel_rfl) (run_addr_slice (q := q1) (n := s.size) (m := cp2) (a := 31) Tryd.underlying60 (fun w => Tryd.sizeOf5 w) (by kernel_rfl) (by kernel_rfl) (by omega)) ?_
  refine wl_val (iN .u8 (((bl s).getD 31 0).toNat)) (by kernel_rfl) (run_load1 (fun w => Tryd.isAgg5 w) (by kernel_rfl) (((h5.get 0 rfl).cell 31).trans (byC_get (bl s) m3 31 (hls (i := 31) (by decide))))) ?_
  refine wl_val (iN .u8 ((((bl s).getD 31 0).toNat) &&& 127)) (by kernel_rfl) (run_andnot8 (a := ((bl s).getD 31 0).toNat) (b := 128) an128 (by kernel_rfl) (by kernel_rfl) (u8_lt _)) ?_
  refine wl_val (.pointer (some ⟨q1, 31, none⟩)) (by kernel_rfl) (run_addr_slice (q := q1) (n := s.size) (m := cp2) (a := 31) Tryd.underlying60 (fun w => Tryd.sizeOf5 w) (by kernel_rfl) (by kernel_rfl) (by omega)) ?_
  refine wl_put (k := .u8) (z := (((((bl s).getD 31 0).toNat) &&& 127 : Nat) : Int)) h5 0 rfl 31 (by rw [byC_size]; exact Nat.lt_add_right _ (hls (i := 31) (by decide))) (by kernel_rfl) (fun w => Tryd.sizeOf5 w) (by kernel_rfl) (by kernel_rfl) ?_
  intro w6 h7
  have h8 : HA w [(q1, 5, byC ((bl s).set 31 (UInt8.ofNat ((((bl s).getD 31 0).toNat) &&& 127))) m3)] w6 := (by rw [← byC_put (bl s) m3 31 ((((bl s).getD 31 0).toNat) &&& 127) (hls (i := 31) (by decide)) (Nat.lt_of_le_of_lt Nat.and_le_left (u8_lt _))]; exact h7)
  clear h7
  refine wl_nil ?_
  refine then_at (F := ⟨(.string s :: un :: .string { data := #[] } :: .bool false :: .slice (some ⟨q1, 0, none⟩) s.size cp2 :: .string s :: .slice (some ⟨q1, 0, none⟩) s.size cp2 :: .slice (some ⟨q1, 0, none⟩) s.size cp2 :: .pointer (some ⟨q1, 31, none⟩) :: iN .u8 (((bl s).getD 31 0).toNat) :: iN .u8 ((((bl s).getD 31 0).toNat) &&& 127) :: .pointer (some ⟨q1, 31, none⟩) :: List.replicate 4 un).toArray, []⟩) (by kernel_rfl) ?_
  refine wp_seq ?_
  -- region 3
  refine wp_region_sure ⟨(.string s :: un :: .string ⟨((bl s).set 31 (UInt8.ofNat ((((bl s).getD 31 0).toNat) &&& 127))).toArray⟩ :: .bool (decide (numS s / 2 ^ 255 % 2 = 1)) :: .slice (some ⟨q1, 0, none⟩) s.size cp2 :: .string s :: .slice (some ⟨q1, 0, none⟩) s.size cp2 :: .slice (some ⟨q1, 0, none⟩) s.size cp2 :: .pointer (some ⟨q1, 31, none⟩) :: iN .u8 (((bl s).getD 31 0).toNat) :: iN .u8 ((((bl s).getD 31 0).toNat) &&& 127) :: .pointer (some ⟨q1, 31, none⟩) :: .slice (some ⟨q1, 0, none⟩) s.size cp2 :: .string ⟨((bl s).set 31 (UInt8.ofNat ((((bl s).getD 31 0).toNat) &&& 127))).toArray⟩ :: .string s :: .bool (decide (numS s / 2 ^ 255 % 2 = 1)) :: List.replicate 0 un).toArray, []⟩ (HA w [(q1, 5, byC ((bl s).set 31 (UInt8.ofNat ((((bl s).getD 31 0).toNat) &&& 127))) m3)]) [.slice (some ⟨q1, 0, none⟩) s.size cp2, .string ⟨((bl s).set 31 (UInt8.ofNat ((((bl s).getD 31 0).toNat) &&& 127))).toArray⟩, .string s, .bool (decide (numS s / 2 ^ 255 % 2 = 1)), .string ⟨((bl s).set 31 (UInt8.ofNat ((((bl s).getD 31 0).toNat) &&& 127))).toArray⟩, .bool (decide (numS s / 2 ^ 255 % 2 = 1))] (by kernel_rfl) (by kernel_rfl) (by kernel_rfl) (by kernel_rfl) (fun _ _ _ h => h) h8.drew ?_ ?_
  · refine AllSure.cons (OpSure.take (v := .slice (some ⟨q1, 0, none⟩) s.size cp2) (by kernel_rfl) (by kernel_rfl) (fun _ _ => (by kernel_rfl))) ?_
    refine AllSure.cons (OpSure.take (v := .string ⟨((bl s).set 31 (UInt8.ofNat ((((bl s).getD 31 0).toNat) &&& 127))).toArray⟩) (by kernel_rfl) (by kernel_rfl) (fun w' h' => run_byText (n := s.size) (c := cp2) (m := m3) (l := (bl s).set 31 (UInt8.ofNat ((((bl s).getD 31 0).toNat) &&& 127))) (by simp only [List.length_set, bl_len]) (by kernel_rfl) (h'.get 0 rfl))) ?_
    refine AllSure.cons (OpSure.take (v := .string s) (by kernel_rfl) (by kernel_rfl) (fun _ _ => (by kernel_rfl))) ?_
    refine AllSure.cons (sure_call (v := .bool (decide (numS s / 2 ^ 255 % 2 = 1))) (by kernel_rfl) (by kernel_rfl) enter62 HA.keep #[.string s, iN .i64 255] (by kernel_rfl) (fun w' h' => bit_any s 255 hs (by decide) w')) ?_
    refine AllSure.cons (OpSure.take (v := .string ⟨((bl s).set 31 (UInt8.ofNat ((((bl s).getD 31 0).toNat) &&& 127))).toArray⟩) (by kernel_rfl) (by kernel_rfl) (fun _ _ => (by kernel_rfl))) ?_
    refine AllSure.cons (OpSure.take (v := .bool (decide (numS s / 2 ^ 255 % 2 = 1))) (by kernel_rfl) (by kernel_rfl) (fun _ _ => (by kernel_rfl))) ?_
    exact AllSure.nil
  intro w9 h10
  refine then_at (F := ⟨(.string s :: un :: .string ⟨((bl s).set 31 (UInt8.ofNat ((((bl s).getD 31 0).toNat) &&& 127))).toArray⟩ :: .bool (decide (numS s / 2 ^ 255 % 2 = 1)) :: .slice (some ⟨q1, 0, none⟩) s.size cp2 :: .string s :: .slice (some ⟨q1, 0, none⟩) s.size cp2 :: .slice (some ⟨q1, 0, none⟩) s.size cp2 :: .pointer (some ⟨q1, 31, none⟩) :: iN .u8 (((bl s).getD 31 0).toNat) :: iN .u8 ((((bl s).getD 31 0).toNat) &&& 127) :: .pointer (some ⟨q1, 31, none⟩) :: .slice (some ⟨q1, 0, none⟩) s.size cp2 :: .string ⟨((bl s).set 31 (UInt8.ofNat ((((bl s).getD 31 0).toNat) &&& 127))).toArray⟩ :: .string s :: .bool (decide (numS s / 2 ^ 255 % 2 = 1)) :: List.replicate 0 un).toArray, []⟩) (by kernel_rfl) ?_
  refine wp_ret ?_
  repeat first | refine then_ret ?_ | refine block_ret ?_
  exact bodyPost_ret (v := .tuple #[.string (topS s), .bool (decide (numS s / 2 ^ 255 % 2 = 1))]) (by kernel_rfl) rfl ⟨rfl, h10.old⟩
end Go.Proofs.YtpaendmdcdeemaaDoor
