/-
  the law of any text (L).
-/
import Derived.Test.YtdhgjnfdbhidcaaDoorHP
import Derived.Test.YtdhgjnfdbhidcaaDoorRs3
namespace Go.Proofs.YtdhgjnfdbhidcaaDoor
open Go.RowKit


def cu3 (s : ByteArray) : ByteArray := s.extract 0 (min s.size 2000)
theorem cu3_le (s : ByteArray) : (cu3 s).size ≤ 2000 := by
  unfold cu3
  rw [extract_size _ _ (Nat.min_le_left _ _)]
  exact Nat.min_le_right _ _

set_option linter.unusedVariables false in
set_option maxRecDepth 100000 in
set_option maxHeartbeats 2000000 in
theorem HashLong_any (s : ByteArray) (w : World) (VV : Vars w) :
    Calls Tryd.prog 4 #[.string s] w fun e w' => e = .returned (.bool true) ∧ Below w.heap.size w w' := by
  have H0 := HA.start w
  go_enter Tryd.func4, Tryd.ntmps4
  refine wp_seq ?_
  -- region 0
  refine wl_region ?_
  refine wl_val (.bool false) (by kernel_rfl) (by kernel_rfl) ?_
  refine wl_nil ?_
  refine then_at (F := ⟨(.string s :: un :: .bool false :: List.replicate 14 un).toArray, []⟩) (by kernel_rfl) ?_
  refine wp_seq ?_
  -- region 1
  refine wl_region ?_
  refine wl_val (.string s) (by kernel_rfl) (by kernel_rfl) ?_
  refine wl_val (.string s) (by kernel_rfl) (by kernel_rfl) ?_
  refine wl_val (iN .i64 s.size) (by kernel_rfl) (run_len (s := s) (by kernel_rfl)) ?_
  refine wl_val (iN .i64 (min s.size 2000)) (by kernel_rfl) (run_min (i := s.size) (j := 2000) (by kernel_rfl) (by kernel_rfl)) ?_
  refine wl_val (.string (cu3 s)) (by kernel_rfl) (run_cut_hi (s := s) (b := min s.size 2000) (by kernel_rfl) (by kernel_rfl) (Nat.min_le_left _ _)) ?_
  refine wl_val (.string (cu3 s)) (by kernel_rfl) (by kernel_rfl) ?_
  refine wl_nil ?_
  refine then_at (F := ⟨(.string (cu3 s) :: un :: .bool false :: .string s :: .string s :: iN .i64 s.size :: iN .i64 (min s.size 2000) :: .string (cu3 s) :: List.replicate 9 un).toArray, []⟩) (by kernel_rfl) ?_
  refine wp_seq ?_
  -- region 2
  refine wl_region ?_
  refine wl_val (.string (cu3 s)) (by kernel_rfl) (by kernel_rfl) ?_
  refine wl_mks (n := 1) (m := 1) (c := psc ([cu3 s])) H0 9 (by kernel_rfl) (run_bs1 (u := cu3 s) (by kernel_rfl)) ?_
  intro q1 w2 h3
  refine wl_call (v := .string (ByteArray.mk (digP KL (catP [cu3 s] 1)).toArray)) h3 (by kernel_rfl) enter10 #[.slice (some ⟨q1, 0, none⟩) 1 1] (by kernel_rfl) (shaL' ([cu3 s]) 1 rfl (some ⟨q1, 0, none⟩) 1 w2 (VV.below h3.old VV.big) (parts_ofc (h3.get 0 rfl)) (sz_one _ (by have h1 := cu3_le s; omega)) (by decide)) ?_
  intro w4 h5
  refine wl_val (.string (cu3 s)) (by kernel_rfl) (by kernel_rfl) ?_
  refine wl_call (v := .string (ByteArray.mk (digP KL (bl (cu3 s))).toArray)) h5 (by kernel_rfl) enter11 #[.string (cu3 s)] (by kernel_rfl) (shaRL (cu3 s) (by have h1 := cu3_le s; omega) w4) ?_
  intro w6 h7
  refine wl_val (.bool true) (by kernel_rfl) (run_eqs (s := ByteArray.mk (digP KL (catP [cu3 s] 1)).toArray) (t := ByteArray.mk (digP KL (bl (cu3 s))).toArray) (by kernel_rfl) (by kernel_rfl) true (decide_eq_true rfl)) ?_
  refine wl_val (.bool true) (by kernel_rfl) (by kernel_rfl) ?_
  refine wl_call (v := .bool true) h7 (by kernel_rfl) enter9 #[] (by kernel_rfl) (works w6 (VV.below h7.old VV.big)) ?_
  intro w8 h9
  refine wl_val (.bool true) (by kernel_rfl) (by kernel_rfl) ?_
  refine wl_val (.bool true) (by kernel_rfl) (by kernel_rfl) ?_
  refine wl_nil ?_
  refine then_at (F := ⟨(.string (cu3 s) :: un :: .bool true :: .string s :: .string s :: iN .i64 s.size :: iN .i64 (min s.size 2000) :: .string (cu3 s) :: .string (cu3 s) :: .slice (some ⟨q1, 0, none⟩) 1 1 :: .string (ByteArray.mk (digP KL (catP [cu3 s] 1)).toArray) :: .string (cu3 s) :: .string (ByteArray.mk (digP KL (bl (cu3 s))).toArray) :: .bool true :: .bool true :: .bool true :: .bool true :: List.replicate 0 un).toArray, []⟩) (by kernel_rfl) ?_
  refine wp_ret ?_
  repeat first | refine then_ret ?_ | refine block_ret ?_
  exact bodyPost_ret (v := .bool true) (by kernel_rfl) rfl ⟨rfl, h9.old⟩
end Go.Proofs.YtdhgjnfdbhidcaaDoor
