/-
  the law of parts.
-/
import Derived.Test.YtmlldbkhphngeaaDoorML
namespace Go.Proofs.YtmlldbkhphngeaaDoor
open Go.RowKit


set_option linter.unusedVariables false in
set_option maxRecDepth 100000 in
set_option maxHeartbeats 2000000 in
theorem MacParts_any (k a b : ByteArray) (hk : k.size ≤ 140737488351232) (ha : a.size ≤ 140737488351232) (hb : b.size ≤ 140737488351232) (w : World) (VV : Vars w) :
    Calls Tryd.prog 6 #[.string k, .string a, .string b] w fun e w' => e = .returned (.bool true) ∧ Below w.heap.size w w' := by
  have H0 := HA.start w
  go_enter Tryd.func6, Tryd.ntmps6
  refine wp_seq ?_
  -- region 0
  refine wl_region ?_
  refine wl_val (.bool false) (by kernel_rfl) (by kernel_rfl) ?_
  refine wl_nil ?_
  refine then_at (F := ⟨(.string k :: .string a :: .string b :: un :: un :: un :: .bool false :: List.replicate 35 un).toArray, []⟩) (by kernel_rfl) ?_
  refine wp_seq ?_
  -- region 1
  refine wl_region ?_
  refine wl_call (v := .bool true) H0 (by kernel_rfl) enter14 #[] (by kernel_rfl) (worksc w (VV.below H0.old VV.big)) ?_
  intro w1 h2
  refine wl_val (.bool true) (by kernel_rfl) (by kernel_rfl) ?_
  refine wl_val (.string k) (by kernel_rfl) (by kernel_rfl) ?_
  refine wl_val (.string a) (by kernel_rfl) (by kernel_rfl) ?_
  refine wl_val (.string b) (by kernel_rfl) (by kernel_rfl) ?_
  refine wl_mks (n := 2) (m := 2) (c := psc ([a, b])) h2 9 (by kernel_rfl) (run_bs2 (u := a) (v := b) (by kernel_rfl) (by kernel_rfl)) ?_
  intro q3 w4 h5
  refine wl_call (v := .string (ByteArray.mk (hmP k (bl ((a ++ b)))).toArray)) h5 (by kernel_rfl) enter10 #[.string k, .slice (some ⟨q3, 0, none⟩) 2 2] (by kernel_rfl) (ret_eq (hmacc k (by omega) ([a, b]) 2 rfl (by decide) (some ⟨q3, 0, none⟩) 2 w4 (VV.below h5.old VV.big) (parts_ofc (h5.get 0 rfl)) (fun h => by cases h) (by show 0 + a.size + b.size ≤ _; first | omega | (rw [ByteArray.size_append]; omega))) (hm_two k a b)) ?_
  intro w6 h7
  refine wl_val (.string k) (by kernel_rfl) (by kernel_rfl) ?_
  refine wl_val (.string a) (by kernel_rfl) (by kernel_rfl) ?_
  refine wl_val (.string b) (by kernel_rfl) (by kernel_rfl) ?_
  refine wl_val (.string (a ++ b)) (by kernel_rfl) (run_cat (s := a) (t := b) (by kernel_rfl) (by kernel_rfl) (by omega)) ?_
  refine wl_mks (n := 1) (m := 1) (c := psc ([(a ++ b)])) h7 9 (by kernel_rfl) (run_bs1 (u := (a ++ b)) (by kernel_rfl)) ?_
  intro q8 w9 h10
  refine wl_call (v := .string (ByteArray.mk (hmP k (bl ((a ++ b)))).toArray)) h10 (by kernel_rfl) enter10 #[.string k, .slice (some ⟨q8, 0, none⟩) 1 1] (by kernel_rfl) (ret_eq (hmacc k (by omega) ([(a ++ b)]) 1 rfl (by decide) (some ⟨q8, 0, none⟩) 1 w9 (VV.below h10.old VV.big) (parts_ofc (h10.get 0 rfl)) (fun h => by cases h) (by show 0 + ((a ++ b)).size ≤ _; first | omega | (rw [ByteArray.size_append]; omega))) (hm_one k ((a ++ b)))) ?_
  intro w11 h12
  refine wl_val (.bool true) (by kernel_rfl) (run_eqs (s := ByteArray.mk (hmP k (bl ((a ++ b)))).toArray) (t := ByteArray.mk (hmP k (bl ((a ++ b)))).toArray) (by kernel_rfl) (by kernel_rfl) true (decide_eq_true rfl)) ?_
  refine wl_val (.bool true) (by kernel_rfl) (by kernel_rfl) ?_
  refine wl_val (.bool true) (by kernel_rfl) (by kernel_rfl) ?_
  refine wl_val (.string k) (by kernel_rfl) (by kernel_rfl) ?_
  refine wl_val (.string a) (by kernel_rfl) (by kernel_rfl) ?_
  refine wl_val (.string b) (by kernel_rfl) (by kernel_rfl) ?_
  refine wl_mks (n := 4) (m := 4) (c := psc ([{ data := #[] }, a, { data := #[] }, b])) h12 9 (by kernel_rfl) (run_bs4 (a := { data := #[] }) (b := a) (c := { data := #[] }) (d := b) (by kernel_rfl) (by kernel_rfl) (by kernel_rfl) (by kernel_rfl)) ?_
  intro q13 w14 h15
  refine wl_call (v := .string (ByteArray.mk (hmP k (bl ((a ++ b)))).toArray)) h15 (by kernel_rfl) enter10 #[.string k, .slice (some ⟨q13, 0, none⟩) 4 4] (by kernel_rfl) (ret_eq (hmacc k (by omega) ([{ data := #[] }, a, { data := #[] }, b]) 4 rfl (by decide) (some ⟨q13, 0, none⟩) 4 w14 (VV.below h15.old VV.big) (parts_ofc (h15.get 0 rfl)) (fun h => by cases h) (by show 0 + 0 + a.size + 0 + b.size ≤ _; first | omega | (rw [ByteArray.size_append]; omega))) (hm_four k a b)) ?_
  intro w16 h17
  refine wl_val (.string k) (by kernel_rfl) (by kernel_rfl) ?_
  refine wl_val (.string a) (by kernel_rfl) (by kernel_rfl) ?_
  refine wl_val (.string b) (by kernel_rfl) (by kernel_rfl) ?_
  refine wl_val (.string (a ++ b)) (by kernel_rfl) (run_cat (s := a) (t := b) (by kernel_rfl) (by kernel_rfl) (by omega)) ?_
  refine wl_mks (n := 1) (m := 1) (c := psc ([(a ++ b)])) h17 9 (by kernel_rfl) (run_bs1 (u := (a ++ b)) (by kernel_rfl)) ?_
  intro q18 w19 h20
  refine wl_call (v := .string (ByteArray.mk (hmP k (bl ((a ++ b)))).toArray)) h20 (by kernel_rfl) enter10 #[.string k, .slice (some ⟨q18, 0, none⟩) 1 1] (by kernel_rfl) (ret_eq (hmacc k (by omega) ([(a ++ b)]) 1 rfl (by decide) (some ⟨q18, 0, none⟩) 1 w19 (VV.below h20.old VV.big) (parts_ofc (h20.get 0 rfl)) (fun h => by cases h) (by show 0 + ((a ++ b)).size ≤ _; first | omega | (rw [ByteArray.size_append]; omega))) (hm_one k ((a ++ b)))) ?_
  intro w21 h22
  refine wl_val (.bool true) (by kernel_rfl) (run_eqs (s := ByteArray.mk (hmP k (bl ((a ++ b)))).toArray) (t := ByteArray.mk (hmP k (bl ((a ++ b)))).toArray) (by kernel_rfl) (by kernel_rfl) true (decide_eq_true rfl)) ?_
  refine wl_val (.bool true) (by kernel_rfl) (by kernel_rfl) ?_
  refine wl_val (.bool true) (by kernel_rfl) (by kernel_rfl) ?_
  refine wl_val (.string k) (by kernel_rfl) (by kernel_rfl) ?_
  refine wl_call (v := .string (ByteArray.mk (hmP k []).toArray)) h22 (by kernel_rfl) enter10 #[.string k, .slice none 0 0] (by kernel_rfl) (hmacc k (by omega) [] 0 rfl (by decide) none 0 w21 (VV.below h22.old VV.big) (fun i hi => absurd hi (Nat.not_lt_zero i)) (fun _ => rfl) (by decide)) ?_
  intro w23 h24
  refine wl_val (iN .i64 ((ByteArray.mk (hmP k []).toArray).size)) (by kernel_rfl) (run_len (s := ByteArray.mk (hmP k []).toArray) (by kernel_rfl)) ?_
  refine wl_val (.bool true) (by kernel_rfl) (run_eqi (k := .i64) (a := (ByteArray.mk (hmP k []).toArray).size) (b := 32) (by kernel_rfl) (by kernel_rfl) true (decide_eq_true (by rw [sz_mk, hmP_len]))) ?_
  refine wl_val (.bool true) (by kernel_rfl) (by kernel_rfl) ?_
  refine wl_val (.bool true) (by kernel_rfl) (by kernel_rfl) ?_
  refine wl_nil ?_
  refine then_at (F := ⟨(.string k :: .string a :: .string b :: un :: un :: un :: .bool true :: .bool true :: .bool true :: .string k :: .string a :: .string b :: .slice (some ⟨q3, 0, none⟩) 2 2 :: .string (ByteArray.mk (hmP k (bl ((a ++ b)))).toArray) :: .string k :: .string a :: .string b :: .string (a ++ b) :: .slice (some ⟨q8, 0, none⟩) 1 1 :: .string (ByteArray.mk (hmP k (bl ((a ++ b)))).toArray) :: .bool true :: .bool true :: .bool true :: .string k :: .string a :: .string b :: .slice (some ⟨q13, 0, none⟩) 4 4 :: .string (ByteArray.mk (hmP k (bl ((a ++ b)))).toArray) :: .string k :: .string a :: .string b :: .string (a ++ b) :: .slice (some ⟨q18, 0, none⟩) 1 1 :: .string (ByteArray.mk (hmP k (bl ((a ++ b)))).toArray) :: .bool true :: .bool true :: .bool true :: .string k :: .string (ByteArray.mk (hmP k []).toArray) :: iN .i64 ((ByteArray.mk (hmP k []).toArray).size) :: .bool true :: .bool true :: List.replicate 0 un).toArray, []⟩) (by kernel_rfl) ?_
  refine wp_ret ?_
  repeat first | refine then_ret ?_ | refine block_ret ?_
  exact bodyPost_ret (v := .bool true) (by kernel_rfl) rfl ⟨rfl, h24.old⟩
end Go.Proofs.YtmlldbkhphngeaaDoor
