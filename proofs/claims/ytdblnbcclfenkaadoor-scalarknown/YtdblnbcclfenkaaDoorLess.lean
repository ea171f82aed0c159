/-
  ScalarLess: the walk.
-/
import Derived.Test.YtdblnbcclfenkaaDoorRing
namespace Go.Proofs.YtdblnbcclfenkaaDoor
open Go.RowKit Num

theorem size_rS (a : ByteArray) : (rS a).size = 32 := bytesOf_size _
theorem isS_bytesOf (n : Nat) (h : n < Lq) : isS (bytesOf n) := ⟨bytesOf_size n, by rw [numS_bytesOf n (Nat.lt_trans h (by decide))]; exact h⟩
theorem rS_rS (a : ByteArray) : rS (rS a) = rS a := by
  show bytesOf (val (rS a)) = bytesOf (val a)
  rw [val_rS]
theorem val_ordS : val ordS = 0 := by decide +kernel
/-- the order less 1 -/
def minS : ByteArray := { data := #[236] } ++ ordS.extract 1 ordS.size
theorem val_minS : val minS = Lq - 1 := by decide +kernel
theorem aS_ord (a : ByteArray) : aS a ordS = rS a := by
  show bytesOf (addL (val a) (val ordS)) = bytesOf (val a)
  rw [val_ordS]
  unfold addL
  rw [Nat.add_zero, Nat.mod_eq_of_lt (val_lt a)]
theorem mS_ord (a : ByteArray) : mS a ordS = bytesOf 0 := by
  show bytesOf (mulL (val a) (val ordS)) = bytesOf 0
  rw [val_ordS]
  unfold mulL
  rw [Nat.mul_zero, Nat.zero_mod]
theorem less_in (M x : Nat) (hM : 0 < M) : ((M - 1) * x % M + x) % M = 0 := by
  rw [Nat.mod_add_mod]
  have e : (M - 1) * x + x = M * x := by
    obtain ⟨N, rfl⟩ : ∃ N, M = N + 1 := ⟨M - 1, by omega⟩
    rw [Nat.add_sub_cancel, Nat.add_mul, Nat.one_mul]
  rw [e, Nat.mul_mod_right]
theorem aS_min (a : ByteArray) : aS (mS minS a) a = bytesOf 0 := by
  show bytesOf (addL (val (mS minS a)) (val a)) = bytesOf 0
  rw [val_mS, val_minS]
  unfold addL mulL
  rw [less_in _ _ Lq_pos]

set_option linter.unusedVariables false in
set_option maxRecDepth 100000 in
set_option maxHeartbeats 4000000 in
theorem ScalarLess_any (a : ByteArray) (w : World) (VV : Vars w) :
    Calls Tryd.prog 7 #[.string a] w fun e w' => e = .returned (.bool true) ∧ Below w.heap.size w w' := by
  have H0 := HA.start w
  go_enter Tryd.func7, Tryd.ntmps7
  refine wp_seq ?_
  -- region 0
  refine wl_region ?_
  refine wl_val (.bool false) (by kernel_rfl) (by kernel_rfl) ?_
  refine wl_nil ?_
  refine then_at (F := ⟨(.string a :: un :: .bool false :: List.replicate 44 un).toArray, []⟩) (by kernel_rfl) ?_
  refine wp_seq ?_
  -- region 1
  refine wl_region ?_
  refine wl_val (.string a) (by kernel_rfl) (by kernel_rfl) ?_
  refine wl_call (v := .string (rS a)) H0 (by kernel_rfl) enter10 #[.string a] (by kernel_rfl) (Reduce_any a w (VV.below H0.old VV.big)) ?_
  intro w1 h2
  refine wl_val (.string (rS a)) (by kernel_rfl) (by kernel_rfl) ?_
  refine wl_nil ?_
  refine then_at (F := ⟨(.string a :: un :: .bool false :: .string (rS a) :: un :: .string a :: .string (rS a) :: List.replicate 40 un).toArray, []⟩) (by kernel_rfl) ?_
  refine wp_seq ?_
  refine wp_seq ?_
  -- region 2
  refine wl_region ?_
  refine wl_val (.string (rS a)) (by kernel_rfl) (by kernel_rfl) ?_
  refine wl_call (v := .bool true) h2 (by kernel_rfl) enter12 #[.string (rS a)] (by kernel_rfl) (Check_yes (rS a) (isS_bytesOf _ (val_lt a)) w1 (VV.below h2.old VV.big)) ?_
  intro w3 h4
  refine wl_val (.bool false) (by kernel_rfl) (by kernel_rfl) ?_
  refine wl_val (.bool false) (by kernel_rfl) (by kernel_rfl) ?_
  refine wl_val (.string (rS a)) (by kernel_rfl) (by kernel_rfl) ?_
  refine wl_call (v := .string (rS (rS a))) h4 (by kernel_rfl) enter10 #[.string (rS a)] (by kernel_rfl) (Reduce_any (rS a) w3 (VV.below h4.old VV.big)) ?_
  intro w5 h6
  refine wl_val (.string (rS a)) (by kernel_rfl) (by kernel_rfl) ?_
  refine wl_val (.bool false) (by kernel_rfl) (run_nes (s := rS (rS a)) (t := rS a) (by kernel_rfl) (by kernel_rfl) false (decide_eq_false (fun h => h (rS_rS a)))) ?_
  refine wl_val (.bool false) (by kernel_rfl) (by kernel_rfl) ?_
  refine wl_val (.bool false) (by kernel_rfl) (by kernel_rfl) ?_
  refine wl_val (.string a) (by kernel_rfl) (by kernel_rfl) ?_
  refine wl_call (v := .string ordS) h6 (by kernel_rfl) enter22 #[] (by kernel_rfl) (order_any w5) ?_
  intro w7 h8
  refine wl_call (v := .string (aS a ordS)) h8 (by kernel_rfl) enter17 #[.string a, .string ordS] (by kernel_rfl) (Add_any a ordS w7 (VV.below h8.old VV.big)) ?_
  intro w9 h10
  refine wl_val (.string (rS a)) (by kernel_rfl) (by kernel_rfl) ?_
  refine wl_val (.bool false) (by kernel_rfl) (run_nes (s := aS a ordS) (t := rS a) (by kernel_rfl) (by kernel_rfl) false (decide_eq_false (fun h => h (aS_ord a)))) ?_
  refine wl_val (.bool false) (by kernel_rfl) (by kernel_rfl) ?_
  refine wl_val (.bool false) (by kernel_rfl) (by kernel_rfl) ?_
  refine wl_val (.string a) (by kernel_rfl) (by kernel_rfl) ?_
  refine wl_call (v := .string ordS) h10 (by kernel_rfl) enter22 #[] (by kernel_rfl) (order_any w9) ?_
  intro w11 h12
  refine wl_call (v := .string (mS a ordS)) h12 (by kernel_rfl) enter19 #[.string a, .string ordS] (by kernel_rfl) (Mul_any a ordS w11 (VV.below h12.old VV.big)) ?_
  intro w13 h14
  refine wl_call (v := .string (bytesOf 0)) h14 (by kernel_rfl) enter21 #[iN .u8 0] (by kernel_rfl) (small_any 0 (by decide) w13) ?_
  intro w15 h16
  refine wl_val (.bool false) (by kernel_rfl) (run_nes (s := mS a ordS) (t := bytesOf 0) (by kernel_rfl) (by kernel_rfl) false (decide_eq_false (fun h => h (mS_ord a)))) ?_
  refine wl_val (.bool false) (by kernel_rfl) (by kernel_rfl) ?_
  refine wl_nil ?_
  refine then_at (F := ⟨(.string a :: un :: .bool false :: .string (rS a) :: un :: .string a :: .string (rS a) :: .string (rS a) :: .bool true :: .bool false :: .bool false :: .string (rS a) :: .string (rS (rS a)) :: .string (rS a) :: .bool false :: .bool false :: .bool false :: .string a :: .string ordS :: .string (aS a ordS) :: .string (rS a) :: .bool false :: .bool false :: .bool false :: .string a :: .string ordS :: .string (mS a ordS) :: .string (bytesOf 0) :: .bool false :: .bool false :: List.replicate 17 un).toArray, []⟩) (by kernel_rfl) ?_
  refine wp_cond_false (by kernel_rfl) ?_
  refine wp_skip ?_
  refine then_at (F := ⟨(.string a :: un :: .bool false :: .string (rS a) :: un :: .string a :: .string (rS a) :: .string (rS a) :: .bool true :: .bool false :: .bool false :: .string (rS a) :: .string (rS (rS a)) :: .string (rS a) :: .bool false :: .bool false :: .bool false :: .string a :: .string ordS :: .string (aS a ordS) :: .string (rS a) :: .bool false :: .bool false :: .bool false :: .string a :: .string ordS :: .string (mS a ordS) :: .string (bytesOf 0) :: .bool false :: .bool false :: List.replicate 17 un).toArray, []⟩) (by kernel_rfl) ?_
  refine wp_seq ?_
  -- region 4
  refine wl_region ?_
  refine wl_call (v := .string ordS) h16 (by kernel_rfl) enter22 #[] (by kernel_rfl) (order_any w15) ?_
  intro w17 h18
  refine wl_val (.string (ordS.extract 1 ordS.size)) (by kernel_rfl) (run_cut_lo (s := ordS) (a := 1) (by kernel_rfl) (by kernel_rfl) (by decide +kernel)) ?_
  refine wl_val (.string minS) (by kernel_rfl) (run_cat (s := { data := #[236] }) (t := ordS.extract 1 ordS.size) (by kernel_rfl) (by kernel_rfl) (by decide +kernel)) ?_
  refine wl_val (.string a) (by kernel_rfl) (by kernel_rfl) ?_
  refine wl_call (v := .string (mS minS a)) h18 (by kernel_rfl) enter19 #[.string minS, .string a] (by kernel_rfl) (Mul_any minS a w17 (VV.below h18.old VV.big)) ?_
  intro w19 h20
  refine wl_val (.string (mS minS a)) (by kernel_rfl) (by kernel_rfl) ?_
  refine wl_nil ?_
  refine then_at (F := ⟨(.string a :: un :: .bool false :: .string (rS a) :: .string (mS minS a) :: .string a :: .string (rS a) :: .string (rS a) :: .bool true :: .bool false :: .bool false :: .string (rS a) :: .string (rS (rS a)) :: .string (rS a) :: .bool false :: .bool false :: .bool false :: .string a :: .string ordS :: .string (aS a ordS) :: .string (rS a) :: .bool false :: .bool false :: .bool false :: .string a :: .string ordS :: .string (mS a ordS) :: .string (bytesOf 0) :: .bool false :: .bool false :: .string ordS :: .string (ordS.extract 1 ordS.size) :: .string minS :: .string a :: .string (mS minS a) :: List.replicate 12 un).toArray, []⟩) (by kernel_rfl) ?_
  refine wp_seq ?_
  -- region 5
  refine wl_region ?_
  refine wl_val (.string (mS minS a)) (by kernel_rfl) (by kernel_rfl) ?_
  refine wl_call (v := .bool true) h20 (by kernel_rfl) enter12 #[.string (mS minS a)] (by kernel_rfl) (Check_yes (mS minS a) (isS_bytesOf _ (mulL_lt _ _)) w19 (VV.below h20.old VV.big)) ?_
  intro w21 h22
  refine wl_val (.bool true) (by kernel_rfl) (by kernel_rfl) ?_
  refine wl_val (.string (mS minS a)) (by kernel_rfl) (by kernel_rfl) ?_
  refine wl_val (.string a) (by kernel_rfl) (by kernel_rfl) ?_
  refine wl_call (v := .string (aS (mS minS a) a)) h22 (by kernel_rfl) enter17 #[.string (mS minS a), .string a] (by kernel_rfl) (Add_any (mS minS a) a w21 (VV.below h22.old VV.big)) ?_
  intro w23 h24
  refine wl_call (v := .string (bytesOf 0)) h24 (by kernel_rfl) enter21 #[iN .u8 0] (by kernel_rfl) (small_any 0 (by decide) w23) ?_
  intro w25 h26
  refine wl_val (.bool true) (by kernel_rfl) (run_eqs (s := aS (mS minS a) a) (t := bytesOf 0) (by kernel_rfl) (by kernel_rfl) true (decide_eq_true (aS_min a))) ?_
  refine wl_val (.bool true) (by kernel_rfl) (by kernel_rfl) ?_
  refine wl_val (.bool true) (by kernel_rfl) (by kernel_rfl) ?_
  refine wl_call (v := .bool true) h26 (by kernel_rfl) enter16 #[] (by kernel_rfl) (works_any w25 (VV.below h26.old VV.big)) ?_
  intro w27 h28
  refine wl_val (.bool true) (by kernel_rfl) (by kernel_rfl) ?_
  refine wl_val (.bool true) (by kernel_rfl) (by kernel_rfl) ?_
  refine wl_nil ?_
  refine then_at (F := ⟨(.string a :: un :: .bool true :: .string (rS a) :: .string (mS minS a) :: .string a :: .string (rS a) :: .string (rS a) :: .bool true :: .bool false :: .bool false :: .string (rS a) :: .string (rS (rS a)) :: .string (rS a) :: .bool false :: .bool false :: .bool false :: .string a :: .string ordS :: .string (aS a ordS) :: .string (rS a) :: .bool false :: .bool false :: .bool false :: .string a :: .string ordS :: .string (mS a ordS) :: .string (bytesOf 0) :: .bool false :: .bool false :: .string ordS :: .string (ordS.extract 1 ordS.size) :: .string minS :: .string a :: .string (mS minS a) :: .string (mS minS a) :: .bool true :: .bool true :: .string (mS minS a) :: .string a :: .string (aS (mS minS a) a) :: .string (bytesOf 0) :: .bool true :: .bool true :: .bool true :: .bool true :: .bool true :: List.replicate 0 un).toArray, []⟩) (by kernel_rfl) ?_
  refine wp_ret ?_
  repeat first | refine then_ret ?_ | refine block_ret ?_
  exact bodyPost_ret (v := .bool true) (by kernel_rfl) rfl ⟨rfl, h28.old⟩
end Go.Proofs.YtdblnbcclfenkaaDoor
