/-
  The base so many times hangs on the number modulo its order.
-/
import Derived.Test.YtpaendmdcdeemaaDoorCvQ
import Derived.Test.YtpaendmdcdeemaaDoorCvX
import Derived.Test.YtpaendmdcdeemaaDoorScX
import Derived.Test.YtpaendmdcdeemaaDoorCuX3
namespace Go.Proofs.YtpaendmdcdeemaaDoor
open Go.RowKit Num

theorem Lq_ord : Sc.Lq = ordL := by decide
theorem cut32 (s : ByteArray) (h : s.size = 32) : Sc.cut s = s := by
  unfold Sc.cut
  rw [h]
  show s.extract 0 32 = s
  rw [← h]
  apply ByteArray.ext
  simp
theorem ordL_pos : 0 < ordL := by decide
theorem ordL_256 : ordL < 2 ^ 256 := by decide
theorem mod_256 (n : Nat) : n % ordL < 2 ^ 256 := Nat.lt_trans (Nat.mod_lt _ ordL_pos) ordL_256
theorem val32 (s : ByteArray) (h : s.size = 32) : Sc.val s = numS s % ordL := by
  unfold Sc.val
  rw [cut32 s h, Lq_ord]
theorem rS_num (a : ByteArray) (ha : a.size = 32) : numS (Sc.rS a) = numS a % ordL := by
  unfold Sc.rS
  rw [val32 a ha, num_bytesOf _ (mod_256 _)]
theorem aS_num (a b : ByteArray) (ha : a.size = 32) (hb : b.size = 32) : numS (Sc.aS a b) = (numS a + numS b) % ordL := by
  unfold Sc.aS Sc.addL
  rw [val32 a ha, val32 b hb, Lq_ord, num_bytesOf _ (mod_256 _), ← Nat.add_mod]
theorem mS_num (a b : ByteArray) (ha : a.size = 32) (hb : b.size = 32) : numS (Sc.mS a b) = numS a * numS b % ordL := by
  unfold Sc.mS Sc.mulL
  rw [val32 a ha, val32 b hb, Lq_ord, num_bytesOf _ (mod_256 _), ← Nat.mul_mod]
theorem base_red (a : ByteArray) (ha : a.size = 32) : mP bP (numS a) = mP bP (numS (Sc.rS a)) := by
  rw [rS_num a ha, mP_mod bP ordL _ base_ord]
theorem base_add (a b : ByteArray) (ha : a.size = 32) (hb : b.size = 32) : aP (mP bP (numS a)) (mP bP (numS b)) = mP bP (numS (Sc.aS a b)) := by
  rw [aS_num a b ha hb, mP_mod bP ordL _ base_ord, mP_add]
theorem base_mul (a b : ByteArray) (ha : a.size = 32) (hb : b.size = 32) : mP (mP bP (numS a)) (numS b) = mP bP (numS (Sc.mS a b)) := by
  rw [mS_num a b ha hb, mP_mod bP ordL _ base_ord, mP_mul]
end Go.Proofs.YtpaendmdcdeemaaDoor

namespace Go.Proofs.YtpaendmdcdeemaaDoor
open Go.RowKit Num


set_option linter.unusedVariables false in
set_option maxRecDepth 100000 in
set_option maxHeartbeats 2000000 in
theorem CurveScalars_any (l1 l2 : List UInt8) (hl1 : l1.length = 32) (hl2 : l2.length = 32) (w : World) (VV : Vars w) (SV : Sc.Vars w) :
    Calls Tryd.prog 8 #[.agg (cs l1).toArray, .agg (cs l2).toArray] w fun e w' => e = .returned (.bool true) ∧ Below w.heap.size w w' := by
  have H0 := HA.start w
  go_enter Tryd.func8, Tryd.ntmps8
  obtain ⟨A, eA⟩ : ∃ A, A = ByteArray.mk l1.toArray := ⟨_, rfl⟩
  obtain ⟨B, eB⟩ : ∃ B, B = ByteArray.mk l2.toArray := ⟨_, rfl⟩
  have sA : A.size = 32 := by rw [eA]; exact sz_l l1 hl1
  have sB : B.size = 32 := by rw [eB]; exact sz_l l2 hl2
  refine wp_seq ?_
  -- region 0
  refine wl_region ?_
  refine wl_make H0 41 (by kernel_rfl) (run_box41 (c := (cs l1).toArray) (by kernel_rfl)) ?_
  intro q1 w2 h3
  refine wl_make h3 41 (by kernel_rfl) (run_box41 (c := (cs l2).toArray) (by kernel_rfl)) ?_
  intro q4 w5 h6
  refine wl_val (.bool false) (by kernel_rfl) (by kernel_rfl) ?_
  refine wl_nil ?_
  refine then_at (F := ⟨(.agg (cs l1).toArray :: .agg (cs l2).toArray :: pt q1 :: pt q4 :: .bool false :: List.replicate 53 un).toArray, []⟩) (by kernel_rfl) ?_
  refine wp_seq ?_
  refine wp_seq ?_
  -- region 1
  refine wl_region ?_
  refine wl_call (v := .bool true) h6 (by kernel_rfl) enter16 #[] (by kernel_rfl) (works_any w5 (VV.below h6.old VV.big)) ?_
  intro w7 h8
  refine wl_val (.bool false) (by kernel_rfl) (by kernel_rfl) ?_
  refine wl_nil ?_
  refine then_at (F := ⟨(.agg (cs l1).toArray :: .agg (cs l2).toArray :: pt q1 :: pt q4 :: .bool false :: un :: un :: un :: un :: .bool true :: .bool false :: List.replicate 47 un).toArray, []⟩) (by kernel_rfl) ?_
  refine wp_cond_false (by kernel_rfl) ?_
  refine wp_skip ?_
  refine then_at (F := ⟨(.agg (cs l1).toArray :: .agg (cs l2).toArray :: pt q1 :: pt q4 :: .bool false :: un :: un :: un :: un :: .bool true :: .bool false :: List.replicate 47 un).toArray, []⟩) (by kernel_rfl) ?_
  refine wp_seq ?_
  -- region 3
  refine wp_region_sure ⟨(.agg (cs l1).toArray :: .agg (cs l2).toArray :: pt q1 :: pt q4 :: .bool false :: .string A :: .string B :: un :: un :: .bool true :: .bool false :: .slice (some ⟨q1, 0, none⟩) 32 32 :: .string A :: .slice (some ⟨q4, 0, none⟩) 32 32 :: .string B :: List.replicate 43 un).toArray, []⟩ (HA w [(q4, 41, (cs l2).toArray), (q1, 41, (cs l1).toArray)]) [.slice (some ⟨q1, 0, none⟩) 32 32, .string A, .slice (some ⟨q4, 0, none⟩) 32 32, .string B, .string A, .string B] (by kernel_rfl) (by kernel_rfl) (by kernel_rfl) (by kernel_rfl) (fun _ _ _ h => h) h8.drew ?_ ?_
  · refine AllSure.cons (OpSure.take (v := .slice (some ⟨q1, 0, none⟩) 32 32) (by kernel_rfl) (by kernel_rfl) (fun _ _ => (run_cut41 (q := q1) (by kernel_rfl)))) ?_
    refine AllSure.cons (OpSure.take (v := .string A) (by kernel_rfl) (by kernel_rfl) (fun w' h' => (by rw [eA]; exact run_arrText hl1 (by kernel_rfl) (h'.get 1 rfl)))) ?_
    refine AllSure.cons (OpSure.take (v := .slice (some ⟨q4, 0, none⟩) 32 32) (by kernel_rfl) (by kernel_rfl) (fun _ _ => (run_cut41 (q := q4) (by kernel_rfl)))) ?_
    refine AllSure.cons (OpSure.take (v := .string B) (by kernel_rfl) (by kernel_rfl) (fun w' h' => (by rw [eB]; exact run_arrText hl2 (by kernel_rfl) (h'.get 0 rfl)))) ?_
    refine AllSure.cons (OpSure.take (v := .string A) (by kernel_rfl) (by kernel_rfl) (fun _ _ => (by kernel_rfl))) ?_
    refine AllSure.cons (OpSure.take (v := .string B) (by kernel_rfl) (by kernel_rfl) (fun _ _ => (by kernel_rfl))) ?_
    exact AllSure.nil
  intro w9 h10
  refine then_at (F := ⟨(.agg (cs l1).toArray :: .agg (cs l2).toArray :: pt q1 :: pt q4 :: .bool false :: .string A :: .string B :: un :: un :: .bool true :: .bool false :: .slice (some ⟨q1, 0, none⟩) 32 32 :: .string A :: .slice (some ⟨q4, 0, none⟩) 32 32 :: .string B :: List.replicate 43 un).toArray, []⟩) (by kernel_rfl) ?_
  refine wp_seq ?_
  -- region 4
  refine wl_region ?_
  refine wl_call (v := .agg (pr bX ((subP bY 1)))) h10 (by kernel_rfl) enter32 #[] (by kernel_rfl) (Base_any w9 (VV.below h10.old VV.big)) ?_
  intro w11 h12
  refine wl_val (.string A) (by kernel_rfl) (by kernel_rfl) ?_
  obtain ⟨x1, y1, n1, c1⟩ := mul_ex Pn.base A sA
  refine wl_call (v := .agg (pr x1 y1)) h12 (by kernel_rfl) enter24 #[.agg (pr bX ((subP bY 1))), .string A] (by kernel_rfl) (c1 w11 (VV.below h12.old VV.big)) ?_
  intro w13 h14
  refine wl_call (v := .agg (pr bX ((subP bY 1)))) h14 (by kernel_rfl) enter32 #[] (by kernel_rfl) (Base_any w13 (VV.below h14.old VV.big)) ?_
  intro w15 h16
  refine wl_val (.string B) (by kernel_rfl) (by kernel_rfl) ?_
  obtain ⟨x2, y2, n2, c2⟩ := mul_ex Pn.base B sB
  refine wl_call (v := .agg (pr x2 y2)) h16 (by kernel_rfl) enter24 #[.agg (pr bX ((subP bY 1))), .string B] (by kernel_rfl) (c2 w15 (VV.below h16.old VV.big)) ?_
  intro w17 h18
  refine wl_make h18 27 (by kernel_rfl) run_alloc27 ?_
  intro q19 w20 h21
  refine wl_make h21 27 (by kernel_rfl) run_alloc27 ?_
  intro q22 w23 h24
  refine wl_fill (c' := pr x1 y1) h24 1 rfl (by kernel_rfl) (by kernel_rfl) (by kernel_rfl) (pr_sz x1 y1 0 0) (info27p x1 y1) (one_pr x1 y1) ?_
  intro w25 (h26 : HA w [(q22, 27, pr 0 0), (q19, 27, pr x1 y1), (q4, 41, (cs l2).toArray), (q1, 41, (cs l1).toArray)] w25)
  refine wl_fill (c' := pr x2 y2) h26 0 rfl (by kernel_rfl) (by kernel_rfl) (by kernel_rfl) (pr_sz x2 y2 0 0) (info27p x2 y2) (one_pr x2 y2) ?_
  intro w27 (h28 : HA w [(q22, 27, pr x2 y2), (q19, 27, pr x1 y1), (q4, 41, (cs l2).toArray), (q1, 41, (cs l1).toArray)] w27)
  refine wl_nil ?_
  refine then_at (F := ⟨(.agg (cs l1).toArray :: .agg (cs l2).toArray :: pt q1 :: pt q4 :: .bool false :: .string A :: .string B :: pt q19 :: pt q22 :: .bool true :: .bool false :: .slice (some ⟨q1, 0, none⟩) 32 32 :: .string A :: .slice (some ⟨q4, 0, none⟩) 32 32 :: .string B :: .agg (pr bX ((subP bY 1))) :: .string A :: .agg (pr x1 y1) :: .agg (pr bX ((subP bY 1))) :: .string B :: .agg (pr x2 y2) :: List.replicate 37 un).toArray, []⟩) (by kernel_rfl) ?_
  refine wp_seq ?_
  -- region 5
  obtain ⟨x3, y3, n3, c3⟩ := mul_ex Pn.base (Sc.rS A) (bytesOf_size _)
  obtain ⟨x4, y4, n4, c4⟩ := add_ex n1 n2
  obtain ⟨x5, y5, n5, c5⟩ := mul_ex Pn.base (Sc.aS A B) (bytesOf_size _)
  obtain ⟨x6, y6, n6, c6⟩ := mul_ex n1 B sB
  obtain ⟨x7, y7, n7, c7⟩ := mul_ex Pn.base (Sc.mS A B) (bytesOf_size _)
  obtain ⟨x8, y8, n8, c8⟩ := mul_ex n2 A sA
  refine wp_region_sure ⟨(.agg (cs l1).toArray :: .agg (cs l2).toArray :: pt q1 :: pt q4 :: .bool true :: .string A :: .string B :: pt q19 :: pt q22 :: .bool true :: .bool false :: .slice (some ⟨q1, 0, none⟩) 32 32 :: .string A :: .slice (some ⟨q4, 0, none⟩) 32 32 :: .string B :: .agg (pr bX ((subP bY 1))) :: .string A :: .agg (pr x1 y1) :: .agg (pr bX ((subP bY 1))) :: .string B :: .agg (pr x2 y2) :: .agg (pr x1 y1) :: .agg (pr bX ((subP bY 1))) :: .string A :: .string (Sc.rS A) :: .agg (pr x3 y3) :: .bool true :: .bool true :: .agg (pr x1 y1) :: .agg (pr x2 y2) :: .agg (pr x4 y4) :: .agg (pr bX ((subP bY 1))) :: .string A :: .string B :: .string (Sc.aS A B) :: .agg (pr x5 y5) :: .bool true :: .bool true :: .bool true :: .agg (pr x1 y1) :: .string B :: .agg (pr x6 y6) :: .agg (pr bX ((subP bY 1))) :: .string A :: .string B :: .string (Sc.mS A B) :: .agg (pr x7 y7) :: .bool true :: .bool true :: .bool true :: .agg (pr x2 y2) :: .string A :: .agg (pr x8 y8) :: .agg (pr x1 y1) :: .string B :: .agg (pr x6 y6) :: .bool true :: .bool true :: List.replicate 0 un).toArray, []⟩ (HA w [(q22, 27, pr x2 y2), (q19, 27, pr x1 y1), (q4, 41, (cs l2).toArray), (q1, 41, (cs l1).toArray)]) [.agg (pr x1 y1), .agg (pr bX ((subP bY 1))), .string A, .string (Sc.rS A), .agg (pr x3 y3), .bool true, .bool true, .agg (pr x1 y1), .agg (pr x2 y2), .agg (pr x4 y4), .agg (pr bX ((subP bY 1))), .string A, .string B, .string (Sc.aS A B), .agg (pr x5 y5), .bool true, .bool true, .bool true, .agg (pr x1 y1), .string B, .agg (pr x6 y6), .agg (pr bX ((subP bY 1))), .string A, .string B, .string (Sc.mS A B), .agg (pr x7 y7), .bool true, .bool true, .bool true, .agg (pr x2 y2), .string A, .agg (pr x8 y8), .agg (pr x1 y1), .string B, .agg (pr x6 y6), .bool true, .bool true, .bool true] (by kernel_rfl) (by kernel_rfl) (by kernel_rfl) (by kernel_rfl) (fun _ _ _ h => h) h28.drew ?_ ?_
  · refine AllSure.cons (OpSure.take (v := .agg (pr x1 y1)) (by kernel_rfl) (by kernel_rfl) (fun _ h => run_load_blk (by kernel_rfl) (h.get 1 rfl) Tryd.underlying27 rfl (info27p x1 y1))) ?_
    refine AllSure.cons (sure_call (v := .agg (pr bX ((subP bY 1)))) (by kernel_rfl) (by kernel_rfl) enter32 HA.keep #[] (by kernel_rfl) (fun w' h' => Base_any w' (VV.below h'.old VV.big))) ?_
    refine AllSure.cons (OpSure.take (v := .string A) (by kernel_rfl) (by kernel_rfl) (fun _ _ => (by kernel_rfl))) ?_
    refine AllSure.cons (sure_call (v := .string (Sc.rS A)) (by kernel_rfl) (by kernel_rfl) enter33 HA.keep #[.string A] (by kernel_rfl) (fun w' h' => Sc.Reduce_any A w' (SV.below h'.old SV.big))) ?_
    refine AllSure.cons (sure_call (v := .agg (pr x3 y3)) (by kernel_rfl) (by kernel_rfl) enter24 HA.keep #[.agg (pr bX ((subP bY 1))), .string (Sc.rS A)] (by kernel_rfl) (fun w' h' => c3 w' (VV.below h'.old VV.big))) ?_
    refine AllSure.cons (sure_call (v := .bool true) (by kernel_rfl) (by kernel_rfl) enter22 HA.keep #[.agg (pr x1 y1), .agg (pr x3 y3)] (by kernel_rfl) (fun w' h' => same_yes n1 n3 (base_red A sA) w')) ?_
    refine AllSure.cons (OpSure.take (v := .bool true) (by kernel_rfl) (by kernel_rfl) (fun _ _ => (by kernel_rfl))) ?_
    refine AllSure.cons (OpSure.take (v := .agg (pr x1 y1)) (by kernel_rfl) (by kernel_rfl) (fun _ h => run_load_blk (by kernel_rfl) (h.get 1 rfl) Tryd.underlying27 rfl (info27p x1 y1))) ?_
    refine AllSure.cons (OpSure.take (v := .agg (pr x2 y2)) (by kernel_rfl) (by kernel_rfl) (fun _ h => run_load_blk (by kernel_rfl) (h.get 0 rfl) Tryd.underlying27 rfl (info27p x2 y2))) ?_
    refine AllSure.cons (sure_call (v := .agg (pr x4 y4)) (by kernel_rfl) (by kernel_rfl) enter18 HA.keep #[.agg (pr x1 y1), .agg (pr x2 y2)] (by kernel_rfl) (fun w' h' => c4 w' (VV.below h'.old VV.big))) ?_
    refine AllSure.cons (sure_call (v := .agg (pr bX ((subP bY 1)))) (by kernel_rfl) (by kernel_rfl) enter32 HA.keep #[] (by kernel_rfl) (fun w' h' => Base_any w' (VV.below h'.old VV.big))) ?_
    refine AllSure.cons (OpSure.take (v := .string A) (by kernel_rfl) (by kernel_rfl) (fun _ _ => (by kernel_rfl))) ?_
    refine AllSure.cons (OpSure.take (v := .string B) (by kernel_rfl) (by kernel_rfl) (fun _ _ => (by kernel_rfl))) ?_
    refine AllSure.cons (sure_call (v := .string (Sc.aS A B)) (by kernel_rfl) (by kernel_rfl) enter34 HA.keep #[.string A, .string B] (by kernel_rfl) (fun w' h' => Sc.Add_any A B w' (SV.below h'.old SV.big))) ?_
    refine AllSure.cons (sure_call (v := .agg (pr x5 y5)) (by kernel_rfl) (by kernel_rfl) enter24 HA.keep #[.agg (pr bX ((subP bY 1))), .string (Sc.aS A B)] (by kernel_rfl) (fun w' h' => c5 w' (VV.below h'.old VV.big))) ?_
    refine AllSure.cons (sure_call (v := .bool true) (by kernel_rfl) (by kernel_rfl) enter22 HA.keep #[.agg (pr x4 y4), .agg (pr x5 y5)] (by kernel_rfl) (fun w' h' => same_yes n4 n5 (base_add A B sA sB) w')) ?_
    refine AllSure.cons (OpSure.take (v := .bool true) (by kernel_rfl) (by kernel_rfl) (fun _ _ => (by kernel_rfl))) ?_
    refine AllSure.cons (OpSure.take (v := .bool true) (by kernel_rfl) (by kernel_rfl) (fun _ _ => (by kernel_rfl))) ?_
    refine AllSure.cons (OpSure.take (v := .agg (pr x1 y1)) (by kernel_rfl) (by kernel_rfl) (fun _ h => run_load_blk (by kernel_rfl) (h.get 1 rfl) Tryd.underlying27 rfl (info27p x1 y1))) ?_
    refine AllSure.cons (OpSure.take (v := .string B) (by kernel_rfl) (by kernel_rfl) (fun _ _ => (by kernel_rfl))) ?_
    refine AllSure.cons (sure_call (v := .agg (pr x6 y6)) (by kernel_rfl) (by kernel_rfl) enter24 HA.keep #[.agg (pr x1 y1), .string B] (by kernel_rfl) (fun w' h' => c6 w' (VV.below h'.old VV.big))) ?_
    refine AllSure.cons (sure_call (v := .agg (pr bX ((subP bY 1)))) (by kernel_rfl) (by kernel_rfl) enter32 HA.keep #[] (by kernel_rfl) (fun w' h' => Base_any w' (VV.below h'.old VV.big))) ?_
    refine AllSure.cons (OpSure.take (v := .string A) (by kernel_rfl) (by kernel_rfl) (fun _ _ => (by kernel_rfl))) ?_
    refine AllSure.cons (OpSure.take (v := .string B) (by kernel_rfl) (by kernel_rfl) (fun _ _ => (by kernel_rfl))) ?_
    refine AllSure.cons (sure_call (v := .string (Sc.mS A B)) (by kernel_rfl) (by kernel_rfl) enter35 HA.keep #[.string A, .string B] (by kernel_rfl) (fun w' h' => Sc.Mul_any A B w' (SV.below h'.old SV.big))) ?_
    refine AllSure.cons (sure_call (v := .agg (pr x7 y7)) (by kernel_rfl) (by kernel_rfl) enter24 HA.keep #[.agg (pr bX ((subP bY 1))), .string (Sc.mS A B)] (by kernel_rfl) (fun w' h' => c7 w' (VV.below h'.old VV.big))) ?_
    refine AllSure.cons (sure_call (v := .bool true) (by kernel_rfl) (by kernel_rfl) enter22 HA.keep #[.agg (pr x6 y6), .agg (pr x7 y7)] (by kernel_rfl) (fun w' h' => same_yes n6 n7 (base_mul A B sA sB) w')) ?_
    refine AllSure.cons (OpSure.take (v := .bool true) (by kernel_rfl) (by kernel_rfl) (fun _ _ => (by kernel_rfl))) ?_
    refine AllSure.cons (OpSure.take (v := .bool true) (by kernel_rfl) (by kernel_rfl) (fun _ _ => (by kernel_rfl))) ?_
    refine AllSure.cons (OpSure.take (v := .agg (pr x2 y2)) (by kernel_rfl) (by kernel_rfl) (fun _ h => run_load_blk (by kernel_rfl) (h.get 0 rfl) Tryd.underlying27 rfl (info27p x2 y2))) ?_
    refine AllSure.cons (OpSure.take (v := .string A) (by kernel_rfl) (by kernel_rfl) (fun _ _ => (by kernel_rfl))) ?_
    refine AllSure.cons (sure_call (v := .agg (pr x8 y8)) (by kernel_rfl) (by kernel_rfl) enter24 HA.keep #[.agg (pr x2 y2), .string A] (by kernel_rfl) (fun w' h' => c8 w' (VV.below h'.old VV.big))) ?_
    refine AllSure.cons (OpSure.take (v := .agg (pr x1 y1)) (by kernel_rfl) (by kernel_rfl) (fun _ h => run_load_blk (by kernel_rfl) (h.get 1 rfl) Tryd.underlying27 rfl (info27p x1 y1))) ?_
    refine AllSure.cons (OpSure.take (v := .string B) (by kernel_rfl) (by kernel_rfl) (fun _ _ => (by kernel_rfl))) ?_
    refine AllSure.cons (sure_call (v := .agg (pr x6 y6)) (by kernel_rfl) (by kernel_rfl) enter24 HA.keep #[.agg (pr x1 y1), .string B] (by kernel_rfl) (fun w' h' => c6 w' (VV.below h'.old VV.big))) ?_
    refine AllSure.cons (sure_call (v := .bool true) (by kernel_rfl) (by kernel_rfl) enter22 HA.keep #[.agg (pr x8 y8), .agg (pr x6 y6)] (by kernel_rfl) (fun w' h' => same_yes n8 n6 (mP_swap _ _ _) w')) ?_
    refine AllSure.cons (OpSure.take (v := .bool true) (by kernel_rfl) (by kernel_rfl) (fun _ _ => (by kernel_rfl))) ?_
    refine AllSure.cons (OpSure.take (v := .bool true) (by kernel_rfl) (by kernel_rfl) (fun _ _ => (by kernel_rfl))) ?_
    exact AllSure.nil
  intro w29 h30
  refine then_at (F := ⟨(.agg (cs l1).toArray :: .agg (cs l2).toArray :: pt q1 :: pt q4 :: .bool true :: .string A :: .string B :: pt q19 :: pt q22 :: .bool true :: .bool false :: .slice (some ⟨q1, 0, none⟩) 32 32 :: .string A :: .slice (some ⟨q4, 0, none⟩) 32 32 :: .string B :: .agg (pr bX ((subP bY 1))) :: .string A :: .agg (pr x1 y1) :: .agg (pr bX ((subP bY 1))) :: .string B :: .agg (pr x2 y2) :: .agg (pr x1 y1) :: .agg (pr bX ((subP bY 1))) :: .string A :: .string (Sc.rS A) :: .agg (pr x3 y3) :: .bool true :: .bool true :: .agg (pr x1 y1) :: .agg (pr x2 y2) :: .agg (pr x4 y4) :: .agg (pr bX ((subP bY 1))) :: .string A :: .string B :: .string (Sc.aS A B) :: .agg (pr x5 y5) :: .bool true :: .bool true :: .bool true :: .agg (pr x1 y1) :: .string B :: .agg (pr x6 y6) :: .agg (pr bX ((subP bY 1))) :: .string A :: .string B :: .string (Sc.mS A B) :: .agg (pr x7 y7) :: .bool true :: .bool true :: .bool true :: .agg (pr x2 y2) :: .string A :: .agg (pr x8 y8) :: .agg (pr x1 y1) :: .string B :: .agg (pr x6 y6) :: .bool true :: .bool true :: List.replicate 0 un).toArray, []⟩) (by kernel_rfl) ?_
  refine wp_ret ?_
  repeat first | refine then_ret ?_ | refine block_ret ?_
  exact bodyPost_ret (v := .bool true) (by kernel_rfl) rfl ⟨rfl, h30.old⟩
end Go.Proofs.YtpaendmdcdeemaaDoor
