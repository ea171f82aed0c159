/-
  X25519.
-/
import Derived.Test.YtpaendmdcdeemaaDoorCuG
namespace Go.Proofs.YtpaendmdcdeemaaDoor
open Go.RowKit Num


theorem topS_size (s : ByteArray) (hs : s.size = 32) : (topS s).size = 32 := by
  have h : (topS s).size = ((bl s).set 31 (UInt8.ofNat (((bl s).getD 31 0).toNat &&& 127))).toArray.size := rfl
  rw [h, List.size_toArray, List.length_set, bl_len, hs]
theorem clampS_size (s : ByteArray) (hs : s.size = 32) : (clampS s).size = 32 := by
  have h : (clampS s).size = (clampL (bl s)).toArray.size := rfl
  rw [h, List.size_toArray]
  unfold clampL
  rw [List.length_set, List.length_set, bl_len, hs]
/-- what the program tells of two texts -/
def xP (s t : ByteArray) : Nat := mulP (lad (clampS s) (numS (topS t) % P) 256).1.1 (invE (lad (clampS s) (numS (topS t) % P) 256).1.2)
theorem mod_lt_P (n : Nat) : n % P < P := Nat.mod_lt _ (by decide)

set_option linter.unusedVariables false in
set_option maxRecDepth 100000 in
set_option maxHeartbeats 2000000 in
theorem x25519_yes (s t : ByteArray) (hs : s.size = 32) (ht : t.size = 32) (w : World) (VV : Vars w) :
    Calls Tryd.prog 26 #[.string s, .string t] w fun e w' => e = .returned (.string (bytesOf (xP s t))) ∧ Below w.heap.size w w' := by
  have H0 := HA.start w
  go_enter Tryd.func26, Tryd.ntmps26
  refine wp_seq ?_
  -- region 0
  refine wl_region ?_
  refine wl_val (.string { data := #[] }) (by kernel_rfl) (by kernel_rfl) ?_
  refine wl_nil ?_
  refine then_at (F := ⟨(.string s :: .string t :: un :: un :: .string { data := #[] } :: List.replicate 21 un).toArray, []⟩) (by kernel_rfl) ?_
  refine wp_seq ?_
  refine wp_seq ?_
  -- region 1
  refine wl_region ?_
  refine wl_val (.string s) (by kernel_rfl) (by kernel_rfl) ?_
  refine wl_val (iN .i64 s.size) (by kernel_rfl) (run_len (s := s) (by kernel_rfl)) ?_
  refine wl_val (.bool false) (by kernel_rfl) (run_nei (k := .i64) (a := s.size) (b := 32) (by kernel_rfl) (by kernel_rfl) false (decide_eq_false (fun hh => hh hs))) ?_
  refine wl_val (.bool false) (by kernel_rfl) (by kernel_rfl) ?_
  refine wl_val (.string t) (by kernel_rfl) (by kernel_rfl) ?_
  refine wl_val (iN .i64 t.size) (by kernel_rfl) (run_len (s := t) (by kernel_rfl)) ?_
  refine wl_val (.bool false) (by kernel_rfl) (run_nei (k := .i64) (a := t.size) (b := 32) (by kernel_rfl) (by kernel_rfl) false (decide_eq_false (fun hh => hh ht))) ?_
  refine wl_val (.bool false) (by kernel_rfl) (by kernel_rfl) ?_
  refine wl_nil ?_
  refine then_at (F := ⟨(.string s :: .string t :: un :: un :: .string { data := #[] } :: un :: un :: .string s :: iN .i64 s.size :: .bool false :: .bool false :: .string t :: iN .i64 t.size :: .bool false :: .bool false :: List.replicate 11 un).toArray, []⟩) (by kernel_rfl) ?_
  refine wp_cond_false (by kernel_rfl) ?_
  refine wp_skip ?_
  refine then_at (F := ⟨(.string s :: .string t :: un :: un :: .string { data := #[] } :: un :: un :: .string s :: iN .i64 s.size :: .bool false :: .bool false :: .string t :: iN .i64 t.size :: .bool false :: .bool false :: List.replicate 11 un).toArray, []⟩) (by kernel_rfl) ?_
  refine wp_seq ?_
  -- region 3
  refine wl_region ?_
  refine wl_val (.string t) (by kernel_rfl) (by kernel_rfl) ?_
  refine wl_call (v := .tuple #[.string (topS t), .bool (decide (numS t / 2 ^ 255 % 2 = 1))]) H0 (by kernel_rfl) enter37 #[.string t] (by kernel_rfl) (withoutTop_any t ht w) ?_
  intro w1 h2
  refine wl_val (.tuple #[.string (topS t), .bool (decide (numS t / 2 ^ 255 % 2 = 1))]) (by kernel_rfl) (by kernel_rfl) ?_
  refine wl_val (.string (topS t)) (by kernel_rfl) (by kernel_rfl) ?_
  refine wl_val (.bool (decide (numS t / 2 ^ 255 % 2 = 1))) (by kernel_rfl) (by kernel_rfl) ?_
  refine wl_val (.string (topS t)) (by kernel_rfl) (by kernel_rfl) ?_
  refine wl_val (.bool (decide (numS t / 2 ^ 255 % 2 = 1))) (by kernel_rfl) (by kernel_rfl) ?_
  refine wl_nil ?_
  refine then_at (F := ⟨(.string s :: .string t :: un :: un :: .string { data := #[] } :: .string (topS t) :: .bool (decide (numS t / 2 ^ 255 % 2 = 1)) :: .string s :: iN .i64 s.size :: .bool false :: .bool false :: .string t :: iN .i64 t.size :: .bool false :: .bool false :: .tuple #[.string (topS t), .bool (decide (numS t / 2 ^ 255 % 2 = 1))] :: .string t :: .tuple #[.string (topS t), .bool (decide (numS t / 2 ^ 255 % 2 = 1))] :: .string (topS t) :: .bool (decide (numS t / 2 ^ 255 % 2 = 1)) :: List.replicate 6 un).toArray, []⟩) (by kernel_rfl) ?_
  refine wp_seq ?_
  -- region 4
  refine wl_region ?_
  refine wl_val (.string s) (by kernel_rfl) (by kernel_rfl) ?_
  refine wl_call (v := .string (clampS s)) h2 (by kernel_rfl) enter64 #[.string s] (by kernel_rfl) (clamped_any s hs w1) ?_
  intro w3 h4
  refine wl_val (.string (topS t)) (by kernel_rfl) (by kernel_rfl) ?_
  refine wl_call (v := arr (numS (topS t) % P)) h4 (by kernel_rfl) enter65 #[.string (topS t)] (by kernel_rfl) (modulo_any (topS t) (topS_size t ht) w3 (VV.below h4.old VV.big)) ?_
  intro w5 h6
  refine wl_call (v := arr (xP s t)) h6 (by kernel_rfl) enter63 #[.string (clampS s), arr (numS (topS t) % P)] (by kernel_rfl) (ladder_any (clampS s) (numS (topS t) % P) (clampS_size s hs) (mod_lt_P _) w5 (VV.below h6.old VV.big)) ?_
  intro w7 h8
  refine wl_call (v := .string (bytesOf (xP s t))) h8 (by kernel_rfl) enter48 #[arr (xP s t)] (by kernel_rfl) (Bytes_any (xP s t) w7) ?_
  intro w9 h10
  refine wl_val (.string (bytesOf (xP s t))) (by kernel_rfl) (by kernel_rfl) ?_
  refine wl_nil ?_
  refine then_at (F := ⟨(.string s :: .string t :: un :: un :: .string (bytesOf (xP s t)) :: .string (topS t) :: .bool (decide (numS t / 2 ^ 255 % 2 = 1)) :: .string s :: iN .i64 s.size :: .bool false :: .bool false :: .string t :: iN .i64 t.size :: .bool false :: .bool false :: .tuple #[.string (topS t), .bool (decide (numS t / 2 ^ 255 % 2 = 1))] :: .string t :: .tuple #[.string (topS t), .bool (decide (numS t / 2 ^ 255 % 2 = 1))] :: .string (topS t) :: .bool (decide (numS t / 2 ^ 255 % 2 = 1)) :: .string s :: .string (clampS s) :: .string (topS t) :: arr (numS (topS t) % P) :: arr (xP s t) :: .string (bytesOf (xP s t)) :: List.replicate 0 un).toArray, []⟩) (by kernel_rfl) ?_
  refine wp_ret ?_
  repeat first | refine then_ret ?_ | refine block_ret ?_
  exact bodyPost_ret (v := .string (bytesOf (xP s t))) (by kernel_rfl) rfl ⟨rfl, h10.old⟩

set_option linter.unusedVariables false in
set_option maxRecDepth 100000 in
set_option maxHeartbeats 2000000 in
theorem x25519_no1 (s t : ByteArray) (hs : s.size ≠ 32) (w : World) (VV : Vars w) :
    Calls Tryd.prog 26 #[.string s, .string t] w fun e w' => e = .returned (.string ByteArray.empty) ∧ Below w.heap.size w w' := by
  have H0 := HA.start w
  go_enter Tryd.func26, Tryd.ntmps26
  refine wp_seq ?_
  -- region 0
  refine wl_region ?_
  refine wl_val (.string { data := #[] }) (by kernel_rfl) (by kernel_rfl) ?_
  refine wl_nil ?_
  refine then_at (F := ⟨(.string s :: .string t :: un :: un :: .string { data := #[] } :: List.replicate 21 un).toArray, []⟩) (by kernel_rfl) ?_
  refine wp_seq ?_
  refine wp_seq ?_
  -- region 1
  refine wl_region ?_
  refine wl_val (.string s) (by kernel_rfl) (by kernel_rfl) ?_
  refine wl_val (iN .i64 s.size) (by kernel_rfl) (run_len (s := s) (by kernel_rfl)) ?_
  refine wl_val (.bool true) (by kernel_rfl) (run_nei (k := .i64) (a := s.size) (b := 32) (by kernel_rfl) (by kernel_rfl) true (decide_eq_true hs)) ?_
  refine wl_val (.bool true) (by kernel_rfl) (by kernel_rfl) ?_
  refine wl_skip (by kernel_rfl) ?_
  refine wl_skip (by kernel_rfl) ?_
  refine wl_skip (by kernel_rfl) ?_
  refine wl_val (.bool true) (by kernel_rfl) (by kernel_rfl) ?_
  refine wl_nil ?_
  refine then_at (F := ⟨(.string s :: .string t :: un :: un :: .string { data := #[] } :: un :: un :: .string s :: iN .i64 s.size :: .bool true :: .bool true :: un :: un :: un :: .bool true :: List.replicate 11 un).toArray, []⟩) (by kernel_rfl) ?_
  refine wp_cond_true (by kernel_rfl) ?_
  refine wp_seq ?_
  -- region 2
  refine wl_region ?_
  refine wl_val (.string { data := #[] }) (by kernel_rfl) (by kernel_rfl) ?_
  refine wl_nil ?_
  refine then_at (F := ⟨(.string s :: .string t :: un :: un :: .string { data := #[] } :: un :: un :: .string s :: iN .i64 s.size :: .bool true :: .bool true :: un :: un :: un :: .bool true :: List.replicate 11 un).toArray, []⟩) (by kernel_rfl) ?_
  refine wp_ret ?_
  repeat first | refine then_ret ?_ | refine block_ret ?_
  exact bodyPost_ret (v := .string ByteArray.empty) (by kernel_rfl) rfl ⟨rfl, H0.old⟩

set_option linter.unusedVariables false in
set_option maxRecDepth 100000 in
set_option maxHeartbeats 2000000 in
theorem x25519_no2 (s t : ByteArray) (hs : s.size = 32) (ht : t.size ≠ 32) (w : World) (VV : Vars w) :
    Calls Tryd.prog 26 #[.string s, .string t] w fun e w' => e = .returned (.string ByteArray.empty) ∧ Below w.heap.size w w' := by
  have H0 := HA.start w
  go_enter Tryd.func26, Tryd.ntmps26
  refine wp_seq ?_
  -- region 0
  refine wl_region ?_
  refine wl_val (.string { data := #[] }) (by kernel_rfl) (by kernel_rfl) ?_
  refine wl_nil ?_
  refine then_at (F := ⟨(.string s :: .string t :: un :: un :: .string { data := #[] } :: List.replicate 21 un).toArray, []⟩) (by kernel_rfl) ?_
  refine wp_seq ?_
  refine wp_seq ?_
  -- region 1
  refine wl_region ?_
  refine wl_val (.string s) (by kernel_rfl) (by kernel_rfl) ?_
  refine wl_val (iN .i64 s.size) (by kernel_rfl) (run_len (s := s) (by kernel_rfl)) ?_
  refine wl_val (.bool false) (by kernel_rfl) (run_nei (k := .i64) (a := s.size) (b := 32) (by kernel_rfl) (by kernel_rfl) false (decide_eq_false (fun hh => hh hs))) ?_
  refine wl_val (.bool false) (by kernel_rfl) (by kernel_rfl) ?_
  refine wl_val (.string t) (by kernel_rfl) (by kernel_rfl) ?_
  refine wl_val (iN .i64 t.size) (by kernel_rfl) (run_len (s := t) (by kernel_rfl)) ?_
  refine wl_val (.bool true) (by kernel_rfl) (run_nei (k := .i64) (a := t.size) (b := 32) (by kernel_rfl) (by kernel_rfl) true (decide_eq_true ht)) ?_
  refine wl_val (.bool true) (by kernel_rfl) (by kernel_rfl) ?_
  refine wl_nil ?_
  refine then_at (F := ⟨(.string s :: .string t :: un :: un :: .string { data := #[] } :: un :: un :: .string s :: iN .i64 s.size :: .bool false :: .bool false :: .string t :: iN .i64 t.size :: .bool true :: .bool true :: List.replicate 11 un).toArray, []⟩) (by kernel_rfl) ?_
  refine wp_cond_true (by kernel_rfl) ?_
  refine wp_seq ?_
  -- region 2
  refine wl_region ?_
  refine wl_val (.string { data := #[] }) (by kernel_rfl) (by kernel_rfl) ?_
  refine wl_nil ?_
  refine then_at (F := ⟨(.string s :: .string t :: un :: un :: .string { data := #[] } :: un :: un :: .string s :: iN .i64 s.size :: .bool false :: .bool false :: .string t :: iN .i64 t.size :: .bool true :: .bool true :: List.replicate 11 un).toArray, []⟩) (by kernel_rfl) ?_
  refine wp_ret ?_
  repeat first | refine then_ret ?_ | refine block_ret ?_
  exact bodyPost_ret (v := .string ByteArray.empty) (by kernel_rfl) rfl ⟨rfl, H0.old⟩

theorem x25519_no (s t : ByteArray) (h : ¬ (s.size = 32 ∧ t.size = 32)) (w : World) (VV : Vars w) :
    Calls Tryd.prog 26 #[.string s, .string t] w fun e w' => e = .returned (.string ByteArray.empty) ∧ Below w.heap.size w w' := by
  by_cases hs : s.size = 32
  · exact x25519_no2 s t hs (fun ht => h ⟨hs, ht⟩) w VV
  · exact x25519_no1 s t hs w VV
end Go.Proofs.YtpaendmdcdeemaaDoor
