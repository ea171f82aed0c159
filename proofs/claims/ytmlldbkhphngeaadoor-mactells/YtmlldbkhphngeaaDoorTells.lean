/-
  the law of what a key tells.
-/
import Derived.Test.YtmlldbkhphngeaaDoorML
namespace Go.Proofs.YtmlldbkhphngeaaDoor
open Go.RowKit


set_option linter.unusedVariables false in
set_option maxRecDepth 100000 in
set_option maxHeartbeats 2000000 in
theorem MacTells_any (k a b : ByteArray) (hk : k.size ≤ 140737488351232) (ha : a.size ≤ 140737488351232) (hb : b.size ≤ 140737488351232) (w : World) (VV : Vars w) :
    Calls Tryd.prog 3 #[.string k, .string a, .string b] w fun e w' => e = .returned (.bool true) ∧ Below w.heap.size w w' := by
  have H0 := HA.start w
  go_enter Tryd.func3, Tryd.ntmps3
  refine wp_seq ?_
  -- region 0
  refine wl_region ?_
  refine wl_val (.bool false) (by kernel_rfl) (by kernel_rfl) ?_
  refine wl_nil ?_
  refine then_at (F := ⟨(.string k :: .string a :: .string b :: un :: un :: un :: .bool false :: List.replicate 23 un).toArray, []⟩) (by kernel_rfl) ?_
  refine wp_seq ?_
  -- region 1
  refine wl_region ?_
  refine wl_val (.string k) (by kernel_rfl) (by kernel_rfl) ?_
  refine wl_val (.string a) (by kernel_rfl) (by kernel_rfl) ?_
  refine wl_val (.string b) (by kernel_rfl) (by kernel_rfl) ?_
  refine wl_mks (n := 2) (m := 2) (c := psc ([a, b])) H0 9 (by kernel_rfl) (run_bs2 (u := a) (v := b) (by kernel_rfl) (by kernel_rfl)) ?_
  intro q1 w2 h3
  refine wl_call (v := .string (ByteArray.mk (hmP k (bl ((a ++ b)))).toArray)) h3 (by kernel_rfl) enter10 #[.string k, .slice (some ⟨q1, 0, none⟩) 2 2] (by kernel_rfl) (ret_eq (hmacc k (by omega) ([a, b]) 2 rfl (by decide) (some ⟨q1, 0, none⟩) 2 w2 (VV.below h3.old VV.big) (parts_ofc (h3.get 0 rfl)) (fun h => by cases h) (by show 0 + a.size + b.size ≤ _; omega)) (hm_two k a b)) ?_
  intro w4 h5
  refine wl_val (.string k) (by kernel_rfl) (by kernel_rfl) ?_
  refine wl_val (.string a) (by kernel_rfl) (by kernel_rfl) ?_
  refine wl_val (.string b) (by kernel_rfl) (by kernel_rfl) ?_
  refine wl_val (.string (a ++ b)) (by kernel_rfl) (run_cat (s := a) (t := b) (by kernel_rfl) (by kernel_rfl) (by omega)) ?_
  refine wl_call (v := .string (ByteArray.mk (hmP k (bl ((a ++ b)))).toArray)) h5 (by kernel_rfl) enter11 #[.string k, .string (a ++ b)] (by kernel_rfl) (hmacR k (by omega) ((a ++ b)) (by rw [ByteArray.size_append]; omega) w4) ?_
  intro w6 h7
  refine wl_val (.bool true) (by kernel_rfl) (run_eqs (s := ByteArray.mk (hmP k (bl ((a ++ b)))).toArray) (t := ByteArray.mk (hmP k (bl ((a ++ b)))).toArray) (by kernel_rfl) (by kernel_rfl) true (decide_eq_true rfl)) ?_
  refine wl_val (.bool true) (by kernel_rfl) (by kernel_rfl) ?_
  refine wl_val (.string k) (by kernel_rfl) (by kernel_rfl) ?_
  refine wl_val (.string a) (by kernel_rfl) (by kernel_rfl) ?_
  refine wl_call (v := .string (ByteArray.mk (hmP k (bl a)).toArray)) h7 (by kernel_rfl) enter12 #[.string k, .string a] (by kernel_rfl) (extractc k (by omega) a (by omega) w6 (VV.below h7.old VV.big)) ?_
  intro w8 h9
  refine wl_val (.string k) (by kernel_rfl) (by kernel_rfl) ?_
  refine wl_val (.string a) (by kernel_rfl) (by kernel_rfl) ?_
  refine wl_call (v := .string (ByteArray.mk (hmP k (bl a)).toArray)) h9 (by kernel_rfl) enter13 #[.string k, .string a] (by kernel_rfl) (extractR k (by omega) a (by omega) w8) ?_
  intro w10 h11
  refine wl_val (.bool true) (by kernel_rfl) (run_eqs (s := ByteArray.mk (hmP k (bl a)).toArray) (t := ByteArray.mk (hmP k (bl a)).toArray) (by kernel_rfl) (by kernel_rfl) true (decide_eq_true rfl)) ?_
  refine wl_val (.bool true) (by kernel_rfl) (by kernel_rfl) ?_
  refine wl_val (.bool true) (by kernel_rfl) (by kernel_rfl) ?_
  refine wl_call (v := .bool true) h11 (by kernel_rfl) enter14 #[] (by kernel_rfl) (worksc w10 (VV.below h11.old VV.big)) ?_
  intro w12 h13
  refine wl_val (.bool true) (by kernel_rfl) (by kernel_rfl) ?_
  refine wl_val (.bool true) (by kernel_rfl) (by kernel_rfl) ?_
  refine wl_nil ?_
  refine then_at (F := ⟨(.string k :: .string a :: .string b :: un :: un :: un :: .bool true :: .string k :: .string a :: .string b :: .slice (some ⟨q1, 0, none⟩) 2 2 :: .string (ByteArray.mk (hmP k (bl ((a ++ b)))).toArray) :: .string k :: .string a :: .string b :: .string (a ++ b) :: .string (ByteArray.mk (hmP k (bl ((a ++ b)))).toArray) :: .bool true :: .bool true :: .string k :: .string a :: .string (ByteArray.mk (hmP k (bl a)).toArray) :: .string k :: .string a :: .string (ByteArray.mk (hmP k (bl a)).toArray) :: .bool true :: .bool true :: .bool true :: .bool true :: .bool true :: List.replicate 0 un).toArray, []⟩) (by kernel_rfl) ?_
  refine wp_ret ?_
  repeat first | refine then_ret ?_ | refine block_ret ?_
  exact bodyPost_ret (v := .bool true) (by kernel_rfl) rfl ⟨rfl, h13.old⟩
end Go.Proofs.YtmlldbkhphngeaaDoor
