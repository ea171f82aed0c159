/-
  ScalarRing: the walk.
-/
import Derived.Test.YtdblnbcclfenkaaDoorChk
namespace Go.Proofs.YtdblnbcclfenkaaDoor
open Go.RowKit Num

theorem val_rS (a : ByteArray) : val (rS a) = val a := val_bytesOf _ (val_lt a)
theorem val_aS (a b : ByteArray) : val (aS a b) = addL (val a) (val b) := val_bytesOf _ (addL_lt _ _)
theorem val_mS (a b : ByteArray) : val (mS a b) = mulL (val a) (val b) := val_bytesOf _ (mulL_lt _ _)
theorem val_nil : val { data := #[] } = 0 := by decide +kernel
theorem val_one : val { data := #[1] } = 1 := by decide +kernel
theorem aS_comm (a b : ByteArray) : aS a b = aS b a := by unfold aS addL; rw [Nat.add_comm]
theorem mS_comm (a b : ByteArray) : mS a b = mS b a := by unfold mS mulL; rw [Nat.mul_comm]
theorem add_in (M x y z : Nat) : ((x + y) % M + z) % M = (x + (y + z) % M) % M := by rw [Nat.mod_add_mod, Nat.add_mod_mod, Nat.add_assoc]
theorem mul_in (M x y z : Nat) : (x * y % M) * z % M = x * (y * z % M) % M := by rw [Nat.mod_mul_mod, Nat.mul_mod_mod, Nat.mul_assoc]
theorem dist_in (M x y z : Nat) : (x + y) % M * z % M = (x * z % M + y * z % M) % M := by rw [Nat.mod_mul_mod, Nat.mod_add_mod, Nat.add_mod_mod, Nat.add_mul]
theorem aS_assoc (a b c : ByteArray) : aS (aS a b) c = aS a (aS b c) := by
  show bytesOf (addL (val (aS a b)) (val c)) = bytesOf (addL (val a) (val (aS b c)))
  rw [val_aS, val_aS]
  unfold addL
  rw [add_in]
theorem mS_assoc (a b c : ByteArray) : mS (mS a b) c = mS a (mS b c) := by
  show bytesOf (mulL (val (mS a b)) (val c)) = bytesOf (mulL (val a) (val (mS b c)))
  rw [val_mS, val_mS]
  unfold mulL
  rw [mul_in]
theorem mS_aS (a b c : ByteArray) : mS (aS a b) c = aS (mS a c) (mS b c) := by
  show bytesOf (mulL (val (aS a b)) (val c)) = bytesOf (addL (val (mS a c)) (val (mS b c)))
  rw [val_aS, val_mS, val_mS]
  unfold mulL addL
  rw [dist_in]
theorem aS_nil (a : ByteArray) : aS a { data := #[] } = rS a := by
  show bytesOf (addL (val a) (val { data := #[] })) = bytesOf (val a)
  rw [val_nil]
  unfold addL
  rw [Nat.add_zero, Nat.mod_eq_of_lt (val_lt a)]
theorem mS_one (a : ByteArray) : mS a { data := #[1] } = rS a := by
  show bytesOf (mulL (val a) (val { data := #[1] })) = bytesOf (val a)
  rw [val_one]
  unfold mulL
  rw [Nat.mul_one, Nat.mod_eq_of_lt (val_lt a)]
theorem mS_nil (a : ByteArray) : mS a { data := #[] } = bytesOf 0 := by
  show bytesOf (mulL (val a) (val { data := #[] })) = bytesOf 0
  rw [val_nil]
  unfold mulL
  rw [Nat.mul_zero, Nat.zero_mod]

set_option linter.unusedVariables false in
set_option maxRecDepth 100000 in
set_option maxHeartbeats 4000000 in
theorem ScalarRing_any (a b c : ByteArray) (w : World) (VV : Vars w) :
    Calls Tryd.prog 6 #[.string a, .string b, .string c] w fun e w' => e = .returned (.bool true) ∧ Below w.heap.size w w' := by
  have H0 := HA.start w
  go_enter Tryd.func6, Tryd.ntmps6
  refine wp_seq ?_
  -- region 0
  refine wl_region ?_
  refine wl_val (.bool false) (by kernel_rfl) (by kernel_rfl) ?_
  refine wl_nil ?_
  refine then_at (F := ⟨(.string a :: .string b :: .string c :: un :: un :: un :: .bool false :: List.replicate 76 un).toArray, []⟩) (by kernel_rfl) ?_
  refine wp_seq ?_
  -- region 1
  refine wl_region ?_
  refine wl_val (.string a) (by kernel_rfl) (by kernel_rfl) ?_
  refine wl_val (.string b) (by kernel_rfl) (by kernel_rfl) ?_
  refine wl_call (v := .string (aS a b)) H0 (by kernel_rfl) enter17 #[.string a, .string b] (by kernel_rfl) (Add_any a b w (VV.below H0.old VV.big)) ?_
  intro w1 h2
  refine wl_val (.string b) (by kernel_rfl) (by kernel_rfl) ?_
  refine wl_val (.string c) (by kernel_rfl) (by kernel_rfl) ?_
  refine wl_call (v := .string (aS b c)) h2 (by kernel_rfl) enter17 #[.string b, .string c] (by kernel_rfl) (Add_any b c w1 (VV.below h2.old VV.big)) ?_
  intro w3 h4
  refine wl_val (.string (aS a b)) (by kernel_rfl) (by kernel_rfl) ?_
  refine wl_val (.string (aS b c)) (by kernel_rfl) (by kernel_rfl) ?_
  refine wl_nil ?_
  refine then_at (F := ⟨(.string a :: .string b :: .string c :: un :: un :: un :: .bool false :: .string (aS a b) :: .string (aS b c) :: un :: un :: .string a :: .string b :: .string (aS a b) :: .string b :: .string c :: .string (aS b c) :: List.replicate 66 un).toArray, []⟩) (by kernel_rfl) ?_
  refine wp_seq ?_
  refine wp_seq ?_
  -- region 2
  refine wl_region ?_
  refine wl_val (.string (aS a b)) (by kernel_rfl) (by kernel_rfl) ?_
  refine wl_val (.string b) (by kernel_rfl) (by kernel_rfl) ?_
  refine wl_val (.string a) (by kernel_rfl) (by kernel_rfl) ?_
  refine wl_call (v := .string (aS b a)) h4 (by kernel_rfl) enter17 #[.string b, .string a] (by kernel_rfl) (Add_any b a w3 (VV.below h4.old VV.big)) ?_
  intro w5 h6
  refine wl_val (.bool false) (by kernel_rfl) (run_nes (s := aS a b) (t := aS b a) (by kernel_rfl) (by kernel_rfl) false (decide_eq_false (fun h => h (aS_comm a b)))) ?_
  refine wl_val (.bool false) (by kernel_rfl) (by kernel_rfl) ?_
  refine wl_val (.string (aS a b)) (by kernel_rfl) (by kernel_rfl) ?_
  refine wl_val (.string c) (by kernel_rfl) (by kernel_rfl) ?_
  refine wl_call (v := .string (aS (aS a b) c)) h6 (by kernel_rfl) enter17 #[.string (aS a b), .string c] (by kernel_rfl) (Add_any (aS a b) c w5 (VV.below h6.old VV.big)) ?_
  intro w7 h8
  refine wl_val (.string a) (by kernel_rfl) (by kernel_rfl) ?_
  refine wl_val (.string (aS b c)) (by kernel_rfl) (by kernel_rfl) ?_
  refine wl_call (v := .string (aS a (aS b c))) h8 (by kernel_rfl) enter17 #[.string a, .string (aS b c)] (by kernel_rfl) (Add_any a (aS b c) w7 (VV.below h8.old VV.big)) ?_
  intro w9 h10
  refine wl_val (.bool false) (by kernel_rfl) (run_nes (s := aS (aS a b) c) (t := aS a (aS b c)) (by kernel_rfl) (by kernel_rfl) false (decide_eq_false (fun h => h (aS_assoc a b c)))) ?_
  refine wl_val (.bool false) (by kernel_rfl) (by kernel_rfl) ?_
  refine wl_nil ?_
  refine then_at (F := ⟨(.string a :: .string b :: .string c :: un :: un :: un :: .bool false :: .string (aS a b) :: .string (aS b c) :: un :: un :: .string a :: .string b :: .string (aS a b) :: .string b :: .string c :: .string (aS b c) :: .string (aS a b) :: .string b :: .string a :: .string (aS b a) :: .bool false :: .bool false :: .string (aS a b) :: .string c :: .string (aS (aS a b) c) :: .string a :: .string (aS b c) :: .string (aS a (aS b c)) :: .bool false :: .bool false :: List.replicate 52 un).toArray, []⟩) (by kernel_rfl) ?_
  refine wp_cond_false (by kernel_rfl) ?_
  refine wp_skip ?_
  refine then_at (F := ⟨(.string a :: .string b :: .string c :: un :: un :: un :: .bool false :: .string (aS a b) :: .string (aS b c) :: un :: un :: .string a :: .string b :: .string (aS a b) :: .string b :: .string c :: .string (aS b c) :: .string (aS a b) :: .string b :: .string a :: .string (aS b a) :: .bool false :: .bool false :: .string (aS a b) :: .string c :: .string (aS (aS a b) c) :: .string a :: .string (aS b c) :: .string (aS a (aS b c)) :: .bool false :: .bool false :: List.replicate 52 un).toArray, []⟩) (by kernel_rfl) ?_
  refine wp_seq ?_
  -- region 4
  refine wl_region ?_
  refine wl_val (.string a) (by kernel_rfl) (by kernel_rfl) ?_
  refine wl_val (.string b) (by kernel_rfl) (by kernel_rfl) ?_
  refine wl_call (v := .string (mS a b)) h10 (by kernel_rfl) enter19 #[.string a, .string b] (by kernel_rfl) (Mul_any a b w9 (VV.below h10.old VV.big)) ?_
  intro w11 h12
  refine wl_val (.string b) (by kernel_rfl) (by kernel_rfl) ?_
  refine wl_val (.string c) (by kernel_rfl) (by kernel_rfl) ?_
  refine wl_call (v := .string (mS b c)) h12 (by kernel_rfl) enter19 #[.string b, .string c] (by kernel_rfl) (Mul_any b c w11 (VV.below h12.old VV.big)) ?_
  intro w13 h14
  refine wl_val (.string (mS a b)) (by kernel_rfl) (by kernel_rfl) ?_
  refine wl_val (.string (mS b c)) (by kernel_rfl) (by kernel_rfl) ?_
  refine wl_nil ?_
  refine then_at (F := ⟨(.string a :: .string b :: .string c :: un :: un :: un :: .bool false :: .string (aS a b) :: .string (aS b c) :: .string (mS a b) :: .string (mS b c) :: .string a :: .string b :: .string (aS a b) :: .string b :: .string c :: .string (aS b c) :: .string (aS a b) :: .string b :: .string a :: .string (aS b a) :: .bool false :: .bool false :: .string (aS a b) :: .string c :: .string (aS (aS a b) c) :: .string a :: .string (aS b c) :: .string (aS a (aS b c)) :: .bool false :: .bool false :: .string a :: .string b :: .string (mS a b) :: .string b :: .string c :: .string (mS b c) :: List.replicate 46 un).toArray, []⟩) (by kernel_rfl) ?_
  refine wp_seq ?_
  refine wp_seq ?_
  -- region 5
  refine wl_region ?_
  refine wl_val (.string (mS a b)) (by kernel_rfl) (by kernel_rfl) ?_
  refine wl_val (.string b) (by kernel_rfl) (by kernel_rfl) ?_
  refine wl_val (.string a) (by kernel_rfl) (by kernel_rfl) ?_
  refine wl_call (v := .string (mS b a)) h14 (by kernel_rfl) enter19 #[.string b, .string a] (by kernel_rfl) (Mul_any b a w13 (VV.below h14.old VV.big)) ?_
  intro w15 h16
  refine wl_val (.bool false) (by kernel_rfl) (run_nes (s := mS a b) (t := mS b a) (by kernel_rfl) (by kernel_rfl) false (decide_eq_false (fun h => h (mS_comm a b)))) ?_
  refine wl_val (.bool false) (by kernel_rfl) (by kernel_rfl) ?_
  refine wl_val (.string (mS a b)) (by kernel_rfl) (by kernel_rfl) ?_
  refine wl_val (.string c) (by kernel_rfl) (by kernel_rfl) ?_
  refine wl_call (v := .string (mS (mS a b) c)) h16 (by kernel_rfl) enter19 #[.string (mS a b), .string c] (by kernel_rfl) (Mul_any (mS a b) c w15 (VV.below h16.old VV.big)) ?_
  intro w17 h18
  refine wl_val (.string a) (by kernel_rfl) (by kernel_rfl) ?_
  refine wl_val (.string (mS b c)) (by kernel_rfl) (by kernel_rfl) ?_
  refine wl_call (v := .string (mS a (mS b c))) h18 (by kernel_rfl) enter19 #[.string a, .string (mS b c)] (by kernel_rfl) (Mul_any a (mS b c) w17 (VV.below h18.old VV.big)) ?_
  intro w19 h20
  refine wl_val (.bool false) (by kernel_rfl) (run_nes (s := mS (mS a b) c) (t := mS a (mS b c)) (by kernel_rfl) (by kernel_rfl) false (decide_eq_false (fun h => h (mS_assoc a b c)))) ?_
  refine wl_val (.bool false) (by kernel_rfl) (by kernel_rfl) ?_
  refine wl_val (.bool false) (by kernel_rfl) (by kernel_rfl) ?_
  refine wl_val (.string (aS a b)) (by kernel_rfl) (by kernel_rfl) ?_
  refine wl_val (.string c) (by kernel_rfl) (by kernel_rfl) ?_
  refine wl_call (v := .string (mS (aS a b) c)) h20 (by kernel_rfl) enter19 #[.string (aS a b), .string c] (by kernel_rfl) (Mul_any (aS a b) c w19 (VV.below h20.old VV.big)) ?_
  intro w21 h22
  refine wl_val (.string a) (by kernel_rfl) (by kernel_rfl) ?_
  refine wl_val (.string c) (by kernel_rfl) (by kernel_rfl) ?_
  refine wl_call (v := .string (mS a c)) h22 (by kernel_rfl) enter19 #[.string a, .string c] (by kernel_rfl) (Mul_any a c w21 (VV.below h22.old VV.big)) ?_
  intro w23 h24
  refine wl_val (.string (mS b c)) (by kernel_rfl) (by kernel_rfl) ?_
  refine wl_call (v := .string (aS (mS a c) (mS b c))) h24 (by kernel_rfl) enter17 #[.string (mS a c), .string (mS b c)] (by kernel_rfl) (Add_any (mS a c) (mS b c) w23 (VV.below h24.old VV.big)) ?_
  intro w25 h26
  refine wl_val (.bool false) (by kernel_rfl) (run_nes (s := mS (aS a b) c) (t := aS (mS a c) (mS b c)) (by kernel_rfl) (by kernel_rfl) false (decide_eq_false (fun h => h (mS_aS a b c)))) ?_
  refine wl_val (.bool false) (by kernel_rfl) (by kernel_rfl) ?_
  refine wl_nil ?_
  refine then_at (F := ⟨(.string a :: .string b :: .string c :: un :: un :: un :: .bool false :: .string (aS a b) :: .string (aS b c) :: .string (mS a b) :: .string (mS b c) :: .string a :: .string b :: .string (aS a b) :: .string b :: .string c :: .string (aS b c) :: .string (aS a b) :: .string b :: .string a :: .string (aS b a) :: .bool false :: .bool false :: .string (aS a b) :: .string c :: .string (aS (aS a b) c) :: .string a :: .string (aS b c) :: .string (aS a (aS b c)) :: .bool false :: .bool false :: .string a :: .string b :: .string (mS a b) :: .string b :: .string c :: .string (mS b c) :: .string (mS a b) :: .string b :: .string a :: .string (mS b a) :: .bool false :: .bool false :: .string (mS a b) :: .string c :: .string (mS (mS a b) c) :: .string a :: .string (mS b c) :: .string (mS a (mS b c)) :: .bool false :: .bool false :: .bool false :: .string (aS a b) :: .string c :: .string (mS (aS a b) c) :: .string a :: .string c :: .string (mS a c) :: .string (mS b c) :: .string (aS (mS a c) (mS b c)) :: .bool false :: .bool false :: List.replicate 21 un).toArray, []⟩) (by kernel_rfl) ?_
  refine wp_cond_false (by kernel_rfl) ?_
  refine wp_skip ?_
  refine then_at (F := ⟨(.string a :: .string b :: .string c :: un :: un :: un :: .bool false :: .string (aS a b) :: .string (aS b c) :: .string (mS a b) :: .string (mS b c) :: .string a :: .string b :: .string (aS a b) :: .string b :: .string c :: .string (aS b c) :: .string (aS a b) :: .string b :: .string a :: .string (aS b a) :: .bool false :: .bool false :: .string (aS a b) :: .string c :: .string (aS (aS a b) c) :: .string a :: .string (aS b c) :: .string (aS a (aS b c)) :: .bool false :: .bool false :: .string a :: .string b :: .string (mS a b) :: .string b :: .string c :: .string (mS b c) :: .string (mS a b) :: .string b :: .string a :: .string (mS b a) :: .bool false :: .bool false :: .string (mS a b) :: .string c :: .string (mS (mS a b) c) :: .string a :: .string (mS b c) :: .string (mS a (mS b c)) :: .bool false :: .bool false :: .bool false :: .string (aS a b) :: .string c :: .string (mS (aS a b) c) :: .string a :: .string c :: .string (mS a c) :: .string (mS b c) :: .string (aS (mS a c) (mS b c)) :: .bool false :: .bool false :: List.replicate 21 un).toArray, []⟩) (by kernel_rfl) ?_
  refine wp_seq ?_
  -- region 7
  refine wl_region ?_
  refine wl_val (.string a) (by kernel_rfl) (by kernel_rfl) ?_
  refine wl_call (v := .string (aS a ({ data := #[] }))) h26 (by kernel_rfl) enter17 #[.string a, .string { data := #[] }] (by kernel_rfl) (Add_any a ({ data := #[] }) w25 (VV.below h26.old VV.big)) ?_
  intro w27 h28
  refine wl_val (.string a) (by kernel_rfl) (by kernel_rfl) ?_
  refine wl_call (v := .string (rS a)) h28 (by kernel_rfl) enter10 #[.string a] (by kernel_rfl) (Reduce_any a w27 (VV.below h28.old VV.big)) ?_
  intro w29 h30
  refine wl_val (.bool true) (by kernel_rfl) (run_eqs (s := aS a ({ data := #[] })) (t := rS a) (by kernel_rfl) (by kernel_rfl) true (decide_eq_true (aS_nil a))) ?_
  refine wl_val (.bool true) (by kernel_rfl) (by kernel_rfl) ?_
  refine wl_val (.string a) (by kernel_rfl) (by kernel_rfl) ?_
  refine wl_call (v := .string (mS a ({ data := #[1] }))) h30 (by kernel_rfl) enter19 #[.string a, .string { data := #[1] }] (by kernel_rfl) (Mul_any a ({ data := #[1] }) w29 (VV.below h30.old VV.big)) ?_
  intro w31 h32
  refine wl_val (.string a) (by kernel_rfl) (by kernel_rfl) ?_
  refine wl_call (v := .string (rS a)) h32 (by kernel_rfl) enter10 #[.string a] (by kernel_rfl) (Reduce_any a w31 (VV.below h32.old VV.big)) ?_
  intro w33 h34
  refine wl_val (.bool true) (by kernel_rfl) (run_eqs (s := mS a ({ data := #[1] })) (t := rS a) (by kernel_rfl) (by kernel_rfl) true (decide_eq_true (mS_one a))) ?_
  refine wl_val (.bool true) (by kernel_rfl) (by kernel_rfl) ?_
  refine wl_val (.bool true) (by kernel_rfl) (by kernel_rfl) ?_
  refine wl_val (.string a) (by kernel_rfl) (by kernel_rfl) ?_
  refine wl_call (v := .string (mS a ({ data := #[] }))) h34 (by kernel_rfl) enter19 #[.string a, .string { data := #[] }] (by kernel_rfl) (Mul_any a ({ data := #[] }) w33 (VV.below h34.old VV.big)) ?_
  intro w35 h36
  refine wl_call (v := .string (bytesOf 0)) h36 (by kernel_rfl) enter21 #[iN .u8 0] (by kernel_rfl) (small_any 0 (by decide) w35) ?_
  intro w37 h38
  refine wl_val (.bool true) (by kernel_rfl) (run_eqs (s := mS a ({ data := #[] })) (t := bytesOf 0) (by kernel_rfl) (by kernel_rfl) true (decide_eq_true (mS_nil a))) ?_
  refine wl_val (.bool true) (by kernel_rfl) (by kernel_rfl) ?_
  refine wl_val (.bool true) (by kernel_rfl) (by kernel_rfl) ?_
  refine wl_call (v := .bool true) h38 (by kernel_rfl) enter16 #[] (by kernel_rfl) (works_any w37 (VV.below h38.old VV.big)) ?_
  intro w39 h40
  refine wl_val (.bool true) (by kernel_rfl) (by kernel_rfl) ?_
  refine wl_val (.bool true) (by kernel_rfl) (by kernel_rfl) ?_
  refine wl_nil ?_
  refine then_at (F := ⟨(.string a :: .string b :: .string c :: un :: un :: un :: .bool true :: .string (aS a b) :: .string (aS b c) :: .string (mS a b) :: .string (mS b c) :: .string a :: .string b :: .string (aS a b) :: .string b :: .string c :: .string (aS b c) :: .string (aS a b) :: .string b :: .string a :: .string (aS b a) :: .bool false :: .bool false :: .string (aS a b) :: .string c :: .string (aS (aS a b) c) :: .string a :: .string (aS b c) :: .string (aS a (aS b c)) :: .bool false :: .bool false :: .string a :: .string b :: .string (mS a b) :: .string b :: .string c :: .string (mS b c) :: .string (mS a b) :: .string b :: .string a :: .string (mS b a) :: .bool false :: .bool false :: .string (mS a b) :: .string c :: .string (mS (mS a b) c) :: .string a :: .string (mS b c) :: .string (mS a (mS b c)) :: .bool false :: .bool false :: .bool false :: .string (aS a b) :: .string c :: .string (mS (aS a b) c) :: .string a :: .string c :: .string (mS a c) :: .string (mS b c) :: .string (aS (mS a c) (mS b c)) :: .bool false :: .bool false :: .string a :: .string (aS a ({ data := #[] })) :: .string a :: .string (rS a) :: .bool true :: .bool true :: .string a :: .string (mS a ({ data := #[1] })) :: .string a :: .string (rS a) :: .bool true :: .bool true :: .bool true :: .string a :: .string (mS a ({ data := #[] })) :: .string (bytesOf 0) :: .bool true :: .bool true :: .bool true :: .bool true :: .bool true :: List.replicate 0 un).toArray, []⟩) (by kernel_rfl) ?_
  refine wp_ret ?_
  repeat first | refine then_ret ?_ | refine block_ret ?_
  exact bodyPost_ret (v := .bool true) (by kernel_rfl) rfl ⟨rfl, h40.old⟩
end Go.Proofs.YtdblnbcclfenkaaDoor
