/-
  the law of two secrets.
-/
import Derived.Test.YtpaendmdcdeemaaDoorCwX
import Derived.Test.YtpaendmdcdeemaaDoorCuX3
namespace Go.Proofs.YtpaendmdcdeemaaDoor
open Go.RowKit Num


set_option linter.unusedVariables false in
set_option maxRecDepth 100000 in
set_option maxHeartbeats 2000000 in
theorem CurveAgrees_any (l1 l2 : List UInt8) (hl1 : l1.length = 32) (hl2 : l2.length = 32) (w : World) (VV : Vars w) :
    Calls Tryd.prog 9 #[.agg (cs l1).toArray, .agg (cs l2).toArray] w fun e w' => e = .returned (.bool true) ∧ Below w.heap.size w w' := by
  have H0 := HA.start w
  go_enter Tryd.func9, Tryd.ntmps9
  obtain ⟨A, eA⟩ : ∃ A, A = ByteArray.mk l1.toArray := ⟨_, rfl⟩
  obtain ⟨B, eB⟩ : ∃ B, B = ByteArray.mk l2.toArray := ⟨_, rfl⟩
  have sA : A.size = 32 := by rw [eA]; exact sz_l l1 hl1
  have sB : B.size = 32 := by rw [eB]; exact sz_l l2 hl2
  have hls : ∀ {i : Nat}, i < 32 → i < (bl (bytesOf (xP B nine))).length := fun h => by rw [bl_len, bytesOf_size]; exact h
  have e_agree : bytesOf (xP A (bytesOf (xP B nine))) = bytesOf (xP B (bytesOf (xP A nine))) := congrArg bytesOf (x_agree A B sA sB)
  have e_high : bytesOf (xP A (oddS (xP B nine))) = bytesOf (xP A (bytesOf (xP B nine))) := congrArg bytesOf (x_high A _ (x_lt _ _))
  have e_zero : bytesOf (xP A zS) = zS := by rw [x_zero]; exact zS_of
  refine wp_seq ?_
  -- region 0
  refine wl_region ?_
  refine wl_make H0 41 (by kernel_rfl) (run_box41 (c := (cs l1).toArray) (by kernel_rfl)) ?_
  intro q1 w2 h3
  refine wl_make h3 41 (by kernel_rfl) (run_box41 (c := (cs l2).toArray) (by kernel_rfl)) ?_
  intro q4 w5 h6
  refine wl_val (.bool false) (by kernel_rfl) (by kernel_rfl) ?_
  refine wl_nil ?_
  refine then_at (F := ⟨(.agg (cs l1).toArray :: .agg (cs l2).toArray :: pt q1 :: pt q4 :: .bool false :: List.replicate 63 un).toArray, []⟩) (by kernel_rfl) ?_
  refine wp_seq ?_
  refine wp_seq ?_
  -- region 1
  refine wl_region ?_
  refine wl_call (v := .bool true) h6 (by kernel_rfl) enter16 #[] (by kernel_rfl) (works_any w5 (VV.below h6.old VV.big)) ?_
  intro w7 h8
  refine wl_val (.bool false) (by kernel_rfl) (by kernel_rfl) ?_
  refine wl_nil ?_
  refine then_at (F := ⟨(.agg (cs l1).toArray :: .agg (cs l2).toArray :: pt q1 :: pt q4 :: .bool false :: un :: un :: un :: un :: un :: un :: un :: .bool true :: .bool false :: List.replicate 54 un).toArray, []⟩) (by kernel_rfl) ?_
  refine wp_cond_false (by kernel_rfl) ?_
  refine wp_skip ?_
  refine then_at (F := ⟨(.agg (cs l1).toArray :: .agg (cs l2).toArray :: pt q1 :: pt q4 :: .bool false :: un :: un :: un :: un :: un :: un :: un :: .bool true :: .bool false :: List.replicate 54 un).toArray, []⟩) (by kernel_rfl) ?_
  refine wp_seq ?_
  -- region 3
  refine wl_region ?_
  refine wl_call (v := .string nine) h8 (by kernel_rfl) enter36 #[iN .u8 9, iN .i64 32, iN .u8 0] (by kernel_rfl) (of_any 9 0 w7) ?_
  intro w9 h10
  refine wl_val (.string nine) (by kernel_rfl) (by kernel_rfl) ?_
  refine wl_nil ?_
  refine then_at (F := ⟨(.agg (cs l1).toArray :: .agg (cs l2).toArray :: pt q1 :: pt q4 :: .bool false :: .string nine :: un :: un :: un :: un :: un :: un :: .bool true :: .bool false :: .string nine :: List.replicate 53 un).toArray, []⟩) (by kernel_rfl) ?_
  refine wp_seq ?_
  -- region 4
  refine wp_region_sure ⟨(.agg (cs l1).toArray :: .agg (cs l2).toArray :: pt q1 :: pt q4 :: .bool false :: .string nine :: .string A :: .string B :: un :: un :: un :: un :: .bool true :: .bool false :: .string nine :: .slice (some ⟨q1, 0, none⟩) 32 32 :: .string A :: .slice (some ⟨q4, 0, none⟩) 32 32 :: .string B :: List.replicate 49 un).toArray, []⟩ (HA w [(q4, 41, (cs l2).toArray), (q1, 41, (cs l1).toArray)]) [.slice (some ⟨q1, 0, none⟩) 32 32, .string A, .slice (some ⟨q4, 0, none⟩) 32 32, .string B, .string A, .string B] (by kernel_rfl) (by kernel_rfl) (by kernel_rfl) (by kernel_rfl) (fun _ _ _ h => h) h10.drew ?_ ?_
  · refine AllSure.cons (OpSure.take (v := .slice (some ⟨q1, 0, none⟩) 32 32) (by kernel_rfl) (by kernel_rfl) (fun _ _ => (run_cut41 (q := q1) (by kernel_rfl)))) ?_
    refine AllSure.cons (OpSure.take (v := .string A) (by kernel_rfl) (by kernel_rfl) (fun w' h' => (by rw [eA]; exact run_arrText hl1 (by kernel_rfl) (h'.get 1 rfl)))) ?_
    refine AllSure.cons (OpSure.take (v := .slice (some ⟨q4, 0, none⟩) 32 32) (by kernel_rfl) (by kernel_rfl) (fun _ _ => (run_cut41 (q := q4) (by kernel_rfl)))) ?_
    refine AllSure.cons (OpSure.take (v := .string B) (by kernel_rfl) (by kernel_rfl) (fun w' h' => (by rw [eB]; exact run_arrText hl2 (by kernel_rfl) (h'.get 0 rfl)))) ?_
    refine AllSure.cons (OpSure.take (v := .string A) (by kernel_rfl) (by kernel_rfl) (fun _ _ => (by kernel_rfl))) ?_
    refine AllSure.cons (OpSure.take (v := .string B) (by kernel_rfl) (by kernel_rfl) (fun _ _ => (by kernel_rfl))) ?_
    exact AllSure.nil
  intro w11 h12
  refine then_at (F := ⟨(.agg (cs l1).toArray :: .agg (cs l2).toArray :: pt q1 :: pt q4 :: .bool false :: .string nine :: .string A :: .string B :: un :: un :: un :: un :: .bool true :: .bool false :: .string nine :: .slice (some ⟨q1, 0, none⟩) 32 32 :: .string A :: .slice (some ⟨q4, 0, none⟩) 32 32 :: .string B :: List.replicate 49 un).toArray, []⟩) (by kernel_rfl) ?_
  refine wp_seq ?_
  -- region 5
  refine wl_region ?_
  refine wl_val (.string A) (by kernel_rfl) (by kernel_rfl) ?_
  refine wl_val (.string nine) (by kernel_rfl) (by kernel_rfl) ?_
  refine wl_call (v := .string (bytesOf (xP A nine))) h12 (by kernel_rfl) enter26 #[.string A, .string nine] (by kernel_rfl) (x25519_yes A nine sA rfl w11 (VV.below h12.old VV.big)) ?_
  intro w13 h14
  refine wl_val (.string B) (by kernel_rfl) (by kernel_rfl) ?_
  refine wl_val (.string nine) (by kernel_rfl) (by kernel_rfl) ?_
  refine wl_call (v := .string (bytesOf (xP B nine))) h14 (by kernel_rfl) enter26 #[.string B, .string nine] (by kernel_rfl) (x25519_yes B nine sB rfl w13 (VV.below h14.old VV.big)) ?_
  intro w15 h16
  refine wl_val (.string (bytesOf (xP A nine))) (by kernel_rfl) (by kernel_rfl) ?_
  refine wl_val (.string (bytesOf (xP B nine))) (by kernel_rfl) (by kernel_rfl) ?_
  refine wl_nil ?_
  refine then_at (F := ⟨(.agg (cs l1).toArray :: .agg (cs l2).toArray :: pt q1 :: pt q4 :: .bool false :: .string nine :: .string A :: .string B :: .string (bytesOf (xP A nine)) :: .string (bytesOf (xP B nine)) :: un :: un :: .bool true :: .bool false :: .string nine :: .slice (some ⟨q1, 0, none⟩) 32 32 :: .string A :: .slice (some ⟨q4, 0, none⟩) 32 32 :: .string B :: .string A :: .string nine :: .string (bytesOf (xP A nine)) :: .string B :: .string nine :: .string (bytesOf (xP B nine)) :: List.replicate 43 un).toArray, []⟩) (by kernel_rfl) ?_
  refine wp_seq ?_
  -- region 6
  refine wl_region ?_
  refine wl_val (.string A) (by kernel_rfl) (by kernel_rfl) ?_
  refine wl_val (.string (bytesOf (xP B nine))) (by kernel_rfl) (by kernel_rfl) ?_
  refine wl_call (v := .string (bytesOf (xP A (bytesOf (xP B nine))))) h16 (by kernel_rfl) enter26 #[.string A, .string (bytesOf (xP B nine))] (by kernel_rfl) (x25519_yes A (bytesOf (xP B nine)) sA (bytesOf_size _) w15 (VV.below h16.old VV.big)) ?_
  intro w17 h18
  refine wl_val (.string (bytesOf (xP A (bytesOf (xP B nine))))) (by kernel_rfl) (by kernel_rfl) ?_
  refine wl_nil ?_
  refine then_at (F := ⟨(.agg (cs l1).toArray :: .agg (cs l2).toArray :: pt q1 :: pt q4 :: .bool false :: .string nine :: .string A :: .string B :: .string (bytesOf (xP A nine)) :: .string (bytesOf (xP B nine)) :: .string (bytesOf (xP A (bytesOf (xP B nine)))) :: un :: .bool true :: .bool false :: .string nine :: .slice (some ⟨q1, 0, none⟩) 32 32 :: .string A :: .slice (some ⟨q4, 0, none⟩) 32 32 :: .string B :: .string A :: .string nine :: .string (bytesOf (xP A nine)) :: .string B :: .string nine :: .string (bytesOf (xP B nine)) :: .string A :: .string (bytesOf (xP B nine)) :: .string (bytesOf (xP A (bytesOf (xP B nine)))) :: List.replicate 40 un).toArray, []⟩) (by kernel_rfl) ?_
  refine wp_seq ?_
  -- region 7
  refine wl_region ?_
  refine wl_val (.string (bytesOf (xP B nine))) (by kernel_rfl) (by kernel_rfl) ?_
  refine wl_bytes (s := (bytesOf (xP B nine))) h18 (by kernel_rfl) (by kernel_rfl) ?_
  intro q19 cp20 m21 w22 h23
  refine wl_val (.slice (some ⟨q19, 0, none⟩) (bytesOf (xP B nine)).size cp20) (by kernel_rfl) (by kernel_rfl) ?_
  refine wl_nil ?_
  refine then_at (F := ⟨(.agg (cs l1).toArray :: .agg (cs l2).toArray :: pt q1 :: pt q4 :: .bool false :: .string nine :: .string A :: .string B :: .string (bytesOf (xP A nine)) :: .string (bytesOf (xP B nine)) :: .string (bytesOf (xP A (bytesOf (xP B nine)))) :: .slice (some ⟨q19, 0, none⟩) (bytesOf (xP B nine)).size cp20 :: .bool true :: .bool false :: .string nine :: .slice (some ⟨q1, 0, none⟩) 32 32 :: .string A :: .slice (some ⟨q4, 0, none⟩) 32 32 :: .string B :: .string A :: .string nine :: .string (bytesOf (xP A nine)) :: .string B :: .string nine :: .string (bytesOf (xP B nine)) :: .string A :: .string (bytesOf (xP B nine)) :: .string (bytesOf (xP A (bytesOf (xP B nine)))) :: .string (bytesOf (xP B nine)) :: .slice (some ⟨q19, 0, none⟩) (bytesOf (xP B nine)).size cp20 :: List.replicate 38 un).toArray, []⟩) (by kernel_rfl) ?_
  refine wp_seq ?_
  -- region 8
  refine wl_region ?_
  refine wl_val (.slice (some ⟨q19, 0, none⟩) (bytesOf (xP B nine)).size cp20) (by kernel_rfl) (by kernel_rfl) ?_
  refine wl_val (.slice (some ⟨q19, 0, none⟩) (bytesOf (xP B nine)).size cp20) (by kernel_rfl) (by kernel_rfl) ?_
  refine wl_val (.pointer (some ⟨q19, 31, none⟩)) (by kernel_rfl) (run_addr_slice (q := q19) (n := (bytesOf (xP B nine)).size) (m := cp20) (a := 31) Tryd.underlying60 (fun w => Tryd.sizeOf5 w) (by kernel_rfl) (by kernel_rfl) (by rw [bytesOf_size]; decide)) ?_
  refine wl_val (iN .u8 (((bl ((bytesOf (xP B nine)))).getD 31 0).toNat)) (by kernel_rfl) (run_load1 (fun w => Tryd.isAgg5 w) (by kernel_rfl) (((h23.get 0 rfl).cell 31).trans (byC_get (bl ((bytesOf (xP B nine)))) m21 31 (hls (i := 31) (by decide))))) ?_
  refine wl_val (iN .u8 ((((bl ((bytesOf (xP B nine)))).getD 31 0).toNat) ||| 128)) (by kernel_rfl) (run_or8 (a := ((bl ((bytesOf (xP B nine)))).getD 31 0).toNat) (b := 128) (by kernel_rfl) (by kernel_rfl) (u8_lt _) (by decide)) ?_
  refine wl_val (.pointer (some ⟨q19, 31, none⟩)) (by kernel_rfl) (run_addr_slice (q := q19) (n := (bytesOf (xP B nine)).size) (m := cp20) (a := 31) Tryd.underlying60 (fun w => Tryd.sizeOf5 w) (by kernel_rfl) (by kernel_rfl) (by rw [bytesOf_size]; decide)) ?_
  refine wl_put (k := .u8) (z := (((((bl ((bytesOf (xP B nine)))).getD 31 0).toNat) ||| 128 : Nat) : Int)) h23 0 rfl 31 (by rw [byC_size]; exact Nat.lt_add_right _ (hls (i := 31) (by decide))) (by kernel_rfl) (fun w => Tryd.sizeOf5 w) (by kernel_rfl) (by kernel_rfl) ?_
  intro w24 h25
  have h26 : HA w [(q19, 5, byC ((bl ((bytesOf (xP B nine)))).set 31 (UInt8.ofNat ((((bl ((bytesOf (xP B nine)))).getD 31 0).toNat) ||| 128))) m21), (q4, 41, (cs l2).toArray), (q1, 41, (cs l1).toArray)] w24 := (by rw [← byC_put (bl ((bytesOf (xP B nine)))) m21 31 ((((bl ((bytesOf (xP B nine)))).getD 31 0).toNat) ||| 128) (hls (i := 31) (by decide)) (or128_lt _)]; exact h25)
  clear h25
  refine wl_nil ?_
  refine then_at (F := ⟨(.agg (cs l1).toArray :: .agg (cs l2).toArray :: pt q1 :: pt q4 :: .bool false :: .string nine :: .string A :: .string B :: .string (bytesOf (xP A nine)) :: .string (bytesOf (xP B nine)) :: .string (bytesOf (xP A (bytesOf (xP B nine)))) :: .slice (some ⟨q19, 0, none⟩) (bytesOf (xP B nine)).size cp20 :: .bool true :: .bool false :: .string nine :: .slice (some ⟨q1, 0, none⟩) 32 32 :: .string A :: .slice (some ⟨q4, 0, none⟩) 32 32 :: .string B :: .string A :: .string nine :: .string (bytesOf (xP A nine)) :: .string B :: .string nine :: .string (bytesOf (xP B nine)) :: .string A :: .string (bytesOf (xP B nine)) :: .string (bytesOf (xP A (bytesOf (xP B nine)))) :: .string (bytesOf (xP B nine)) :: .slice (some ⟨q19, 0, none⟩) (bytesOf (xP B nine)).size cp20 :: .slice (some ⟨q19, 0, none⟩) (bytesOf (xP B nine)).size cp20 :: .slice (some ⟨q19, 0, none⟩) (bytesOf (xP B nine)).size cp20 :: .pointer (some ⟨q19, 31, none⟩) :: iN .u8 (((bl ((bytesOf (xP B nine)))).getD 31 0).toNat) :: iN .u8 ((((bl ((bytesOf (xP B nine)))).getD 31 0).toNat) ||| 128) :: .pointer (some ⟨q19, 31, none⟩) :: List.replicate 32 un).toArray, []⟩) (by kernel_rfl) ?_
  refine wp_seq ?_
  -- region 9
  refine wp_region_ghost (fun g : Nat → Nat => (⟨(.agg (cs l1).toArray :: .agg (cs l2).toArray :: pt q1 :: pt q4 :: .bool true :: .string nine :: .string A :: .string B :: .string (bytesOf (xP A nine)) :: .string (bytesOf (xP B nine)) :: .string (bytesOf (xP A (bytesOf (xP B nine)))) :: .slice (some ⟨q19, 0, none⟩) (bytesOf (xP B nine)).size cp20 :: .bool true :: .bool false :: .string nine :: .slice (some ⟨q1, 0, none⟩) 32 32 :: .string A :: .slice (some ⟨q4, 0, none⟩) 32 32 :: .string B :: .string A :: .string nine :: .string (bytesOf (xP A nine)) :: .string B :: .string nine :: .string (bytesOf (xP B nine)) :: .string A :: .string (bytesOf (xP B nine)) :: .string (bytesOf (xP A (bytesOf (xP B nine)))) :: .string (bytesOf (xP B nine)) :: .slice (some ⟨q19, 0, none⟩) (bytesOf (xP B nine)).size cp20 :: .slice (some ⟨q19, 0, none⟩) (bytesOf (xP B nine)).size cp20 :: .slice (some ⟨q19, 0, none⟩) (bytesOf (xP B nine)).size cp20 :: .pointer (some ⟨q19, 31, none⟩) :: iN .u8 (((bl ((bytesOf (xP B nine)))).getD 31 0).toNat) :: iN .u8 ((((bl ((bytesOf (xP B nine)))).getD 31 0).toNat) ||| 128) :: .pointer (some ⟨q19, 31, none⟩) :: .string (bytesOf (xP A nine)) :: iN .i64 ((bytesOf (xP A nine)).size) :: .bool true :: .bool true :: .string (bytesOf (xP A (bytesOf (xP B nine)))) :: iN .i64 ((bytesOf (xP A (bytesOf (xP B nine)))).size) :: .bool true :: .bool true :: .bool true :: .string (bytesOf (xP A (bytesOf (xP B nine)))) :: .string B :: .string (bytesOf (xP A nine)) :: .string (bytesOf (xP B (bytesOf (xP A nine)))) :: .bool true :: .bool true :: .bool true :: .string A :: .slice (some ⟨q19, 0, none⟩) (bytesOf (xP B nine)).size cp20 :: .string (oddS (xP B nine)) :: .string (bytesOf (xP A (oddS (xP B nine)))) :: .string (bytesOf (xP A (bytesOf (xP B nine)))) :: .bool true :: .bool true :: .bool true :: .string A :: .slice (some ⟨g 25, 0, none⟩) 32 32 :: .string zS :: .string (bytesOf (xP A zS)) :: .slice (some ⟨g 28, 0, none⟩) 32 32 :: .string zS :: .bool true :: .bool true :: List.replicate 0 un).toArray, []⟩ : Act)) (GM w [(q19, 5, byC ((bl ((bytesOf (xP B nine)))).set 31 (UInt8.ofNat ((((bl ((bytesOf (xP B nine)))).getD 31 0).toNat) ||| 128))) m21), (q4, 41, (cs l2).toArray), (q1, 41, (cs l1).toArray)] [(25, 5, zr 32), (28, 5, zr 32)]) [.string (bytesOf (xP A nine)), iN .i64 ((bytesOf (xP A nine)).size), .bool true, .bool true, .string (bytesOf (xP A (bytesOf (xP B nine)))), iN .i64 ((bytesOf (xP A (bytesOf (xP B nine)))).size), .bool true, .bool true, .bool true, .string (bytesOf (xP A (bytesOf (xP B nine)))), .string B, .string (bytesOf (xP A nine)), .string (bytesOf (xP B (bytesOf (xP A nine)))), .bool true, .bool true, .bool true, .string A, .slice (some ⟨q19, 0, none⟩) (bytesOf (xP B nine)).size cp20, .string (oddS (xP B nine)), .string (bytesOf (xP A (oddS (xP B nine)))), .string (bytesOf (xP A (bytesOf (xP B nine)))), .bool true, .bool true, .bool true, .string A, .slice (some ⟨0, 0, none⟩) 32 32, .string zS, .string (bytesOf (xP A zS)), .slice (some ⟨0, 0, none⟩) 32 32, .string zS, .bool true, .bool true, .bool true] (by kernel_rfl) (by kernel_rfl) (by kernel_rfl) (by kernel_rfl) (fun _ _ _ _ h => h) (fun d hd => GM.start h26.drew 33 (by kernel_rfl) hd) ?_ ?_
  · refine AllGhost.cons (gm_plain (v := fun _ => .string (bytesOf (xP A nine))) (by kernel_rfl) (fun _ => by kernel_rfl) (fun _ => by kernel_rfl) (fun _ _ => (by kernel_rfl))) ?_
    refine AllGhost.cons (gm_plain (v := fun _ => iN .i64 ((bytesOf (xP A nine)).size)) (by kernel_rfl) (fun _ => by kernel_rfl) (fun _ => by kernel_rfl) (fun _ _ => (run_len (s := (bytesOf (xP A nine))) (by kernel_rfl)))) ?_
    refine AllGhost.cons (gm_plain (v := fun _ => .bool true) (by kernel_rfl) (fun _ => by kernel_rfl) (fun _ => by kernel_rfl) (fun _ _ => (run_eqi (k := .i64) (a := (bytesOf (xP A nine)).size) (b := 32) (by kernel_rfl) (by kernel_rfl) true (decide_eq_true (bytesOf_size _))))) ?_
    refine AllGhost.cons (gm_plain (v := fun _ => .bool true) (by kernel_rfl) (fun _ => by kernel_rfl) (fun _ => by kernel_rfl) (fun _ _ => (by kernel_rfl))) ?_
    refine AllGhost.cons (gm_plain (v := fun _ => .string (bytesOf (xP A (bytesOf (xP B nine))))) (by kernel_rfl) (fun _ => by kernel_rfl) (fun _ => by kernel_rfl) (fun _ _ => (by kernel_rfl))) ?_
    refine AllGhost.cons (gm_plain (v := fun _ => iN .i64 ((bytesOf (xP A (bytesOf (xP B nine)))).size)) (by kernel_rfl) (fun _ => by kernel_rfl) (fun _ => by kernel_rfl) (fun _ _ => (run_len (s := (bytesOf (xP A (bytesOf (xP B nine))))) (by kernel_rfl)))) ?_
    refine AllGhost.cons (gm_plain (v := fun _ => .bool true) (by kernel_rfl) (fun _ => by kernel_rfl) (fun _ => by kernel_rfl) (fun _ _ => (run_eqi (k := .i64) (a := (bytesOf (xP A (bytesOf (xP B nine)))).size) (b := 32) (by kernel_rfl) (by kernel_rfl) true (decide_eq_true (bytesOf_size _))))) ?_
    refine AllGhost.cons (gm_plain (v := fun _ => .bool true) (by kernel_rfl) (fun _ => by kernel_rfl) (fun _ => by kernel_rfl) (fun _ _ => (by kernel_rfl))) ?_
    refine AllGhost.cons (gm_plain (v := fun _ => .bool true) (by kernel_rfl) (fun _ => by kernel_rfl) (fun _ => by kernel_rfl) (fun _ _ => (by kernel_rfl))) ?_
    refine AllGhost.cons (gm_plain (v := fun _ => .string (bytesOf (xP A (bytesOf (xP B nine))))) (by kernel_rfl) (fun _ => by kernel_rfl) (fun _ => by kernel_rfl) (fun _ _ => (by kernel_rfl))) ?_
    refine AllGhost.cons (gm_plain (v := fun _ => .string B) (by kernel_rfl) (fun _ => by kernel_rfl) (fun _ => by kernel_rfl) (fun _ _ => (by kernel_rfl))) ?_
    refine AllGhost.cons (gm_plain (v := fun _ => .string (bytesOf (xP A nine))) (by kernel_rfl) (fun _ => by kernel_rfl) (fun _ => by kernel_rfl) (fun _ _ => (by kernel_rfl))) ?_
    refine AllGhost.cons (gm_call (v := .string (bytesOf (xP B (bytesOf (xP A nine))))) (by kernel_rfl) (fun _ => by kernel_rfl) (fun _ => by kernel_rfl) enter26 #[.string B, .string (bytesOf (xP A nine))] (fun _ => by kernel_rfl) (fun w' h' => x25519_yes B (bytesOf (xP A nine)) sB (bytesOf_size _) w' (VV.below h'.old VV.big))) ?_
    refine AllGhost.cons (gm_plain (v := fun _ => .bool true) (by kernel_rfl) (fun _ => by kernel_rfl) (fun _ => by kernel_rfl) (fun _ _ => (run_eqs (s := (bytesOf (xP A (bytesOf (xP B nine))))) (t := (bytesOf (xP B (bytesOf (xP A nine))))) (by kernel_rfl) (by kernel_rfl) true (decide_eq_true e_agree)))) ?_
    refine AllGhost.cons (gm_plain (v := fun _ => .bool true) (by kernel_rfl) (fun _ => by kernel_rfl) (fun _ => by kernel_rfl) (fun _ _ => (by kernel_rfl))) ?_
    refine AllGhost.cons (gm_plain (v := fun _ => .bool true) (by kernel_rfl) (fun _ => by kernel_rfl) (fun _ => by kernel_rfl) (fun _ _ => (by kernel_rfl))) ?_
    refine AllGhost.cons (gm_plain (v := fun _ => .string A) (by kernel_rfl) (fun _ => by kernel_rfl) (fun _ => by kernel_rfl) (fun _ _ => (by kernel_rfl))) ?_
    refine AllGhost.cons (gm_plain (v := fun _ => .slice (some ⟨q19, 0, none⟩) (bytesOf (xP B nine)).size cp20) (by kernel_rfl) (fun _ => by kernel_rfl) (fun _ => by kernel_rfl) (fun _ _ => (by kernel_rfl))) ?_
    refine AllGhost.cons (gm_held (v := .string (oddS (xP B nine))) (by kernel_rfl) (fun _ => by kernel_rfl) (fun _ => by kernel_rfl) (fun g w' h' => run_byText (n := (bytesOf (xP B nine)).size) (c := cp20) (m := m21) (l := (bl ((bytesOf (xP B nine)))).set 31 (UInt8.ofNat ((((bl ((bytesOf (xP B nine)))).getD 31 0).toNat) ||| 128))) (by simp [bl_len]) (by kernel_rfl) (h'.get 0 rfl))) ?_
    refine AllGhost.cons (gm_call (v := .string (bytesOf (xP A (oddS (xP B nine))))) (by kernel_rfl) (fun _ => by kernel_rfl) (fun _ => by kernel_rfl) enter26 #[.string A, .string (oddS (xP B nine))] (fun _ => by kernel_rfl) (fun w' h' => x25519_yes A (oddS (xP B nine)) sA (odd_size _) w' (VV.below h'.old VV.big))) ?_
    refine AllGhost.cons (gm_plain (v := fun _ => .string (bytesOf (xP A (bytesOf (xP B nine))))) (by kernel_rfl) (fun _ => by kernel_rfl) (fun _ => by kernel_rfl) (fun _ _ => (by kernel_rfl))) ?_
    refine AllGhost.cons (gm_plain (v := fun _ => .bool true) (by kernel_rfl) (fun _ => by kernel_rfl) (fun _ => by kernel_rfl) (fun _ _ => (run_eqs (s := (bytesOf (xP A (oddS (xP B nine))))) (t := (bytesOf (xP A (bytesOf (xP B nine))))) (by kernel_rfl) (by kernel_rfl) true (decide_eq_true e_high)))) ?_
    refine AllGhost.cons (gm_plain (v := fun _ => .bool true) (by kernel_rfl) (fun _ => by kernel_rfl) (fun _ => by kernel_rfl) (fun _ _ => (by kernel_rfl))) ?_
    refine AllGhost.cons (gm_plain (v := fun _ => .bool true) (by kernel_rfl) (fun _ => by kernel_rfl) (fun _ => by kernel_rfl) (fun _ _ => (by kernel_rfl))) ?_
    refine AllGhost.cons (gm_plain (v := fun _ => .string A) (by kernel_rfl) (fun _ => by kernel_rfl) (fun _ => by kernel_rfl) (fun _ _ => (by kernel_rfl))) ?_
    refine AllGhost.cons (gm_make (fun m => .slice (some ⟨m, 0, none⟩) 32 32) (by kernel_rfl) (by simp) (fun _ => by kernel_rfl) (fun _ _ => by kernel_rfl) (fun _ _ => (run_mk 32 (by decide) (by kernel_rfl) (by kernel_rfl)))) ?_
    refine AllGhost.cons (gm_reads (v := .string zS) 0 rfl (by kernel_rfl) (fun _ => by kernel_rfl) (fun _ => by kernel_rfl) (by kernel_rfl) (fun g w' hb => run_text (List.replicate 32 0) (by kernel_rfl) hb (by kernel_rfl) rfl)) ?_
    refine AllGhost.cons (gm_call (v := .string (bytesOf (xP A zS))) (by kernel_rfl) (fun _ => by kernel_rfl) (fun _ => by kernel_rfl) enter26 #[.string A, .string zS] (fun _ => by kernel_rfl) (fun w' h' => x25519_yes A zS sA rfl w' (VV.below h'.old VV.big))) ?_
    refine AllGhost.cons (gm_make (fun m => .slice (some ⟨m, 0, none⟩) 32 32) (by kernel_rfl) (by simp) (fun _ => by kernel_rfl) (fun _ _ => by kernel_rfl) (fun _ _ => (run_mk 32 (by decide) (by kernel_rfl) (by kernel_rfl)))) ?_
    refine AllGhost.cons (gm_reads (v := .string zS) 1 rfl (by kernel_rfl) (fun _ => by kernel_rfl) (fun _ => by kernel_rfl) (by kernel_rfl) (fun g w' hb => run_text (List.replicate 32 0) (by kernel_rfl) hb (by kernel_rfl) rfl)) ?_
    refine AllGhost.cons (gm_plain (v := fun _ => .bool true) (by kernel_rfl) (fun _ => by kernel_rfl) (fun _ => by kernel_rfl) (fun _ _ => (run_eqs (s := (bytesOf (xP A zS))) (t := zS) (by kernel_rfl) (by kernel_rfl) true (decide_eq_true e_zero)))) ?_
    refine AllGhost.cons (gm_plain (v := fun _ => .bool true) (by kernel_rfl) (fun _ => by kernel_rfl) (fun _ => by kernel_rfl) (fun _ _ => (by kernel_rfl))) ?_
    refine AllGhost.cons (gm_plain (v := fun _ => .bool true) (by kernel_rfl) (fun _ => by kernel_rfl) (fun _ => by kernel_rfl) (fun _ _ => (by kernel_rfl))) ?_
    exact AllGhost.nil
  intro g w27 g28
  have h29 := g28.held
  clear g28
  generalize g 25 = u30
  generalize g 28 = u31
  clear g
  refine then_at (F := ⟨(.agg (cs l1).toArray :: .agg (cs l2).toArray :: pt q1 :: pt q4 :: .bool true :: .string nine :: .string A :: .string B :: .string (bytesOf (xP A nine)) :: .string (bytesOf (xP B nine)) :: .string (bytesOf (xP A (bytesOf (xP B nine)))) :: .slice (some ⟨q19, 0, none⟩) (bytesOf (xP B nine)).size cp20 :: .bool true :: .bool false :: .string nine :: .slice (some ⟨q1, 0, none⟩) 32 32 :: .string A :: .slice (some ⟨q4, 0, none⟩) 32 32 :: .string B :: .string A :: .string nine :: .string (bytesOf (xP A nine)) :: .string B :: .string nine :: .string (bytesOf (xP B nine)) :: .string A :: .string (bytesOf (xP B nine)) :: .string (bytesOf (xP A (bytesOf (xP B nine)))) :: .string (bytesOf (xP B nine)) :: .slice (some ⟨q19, 0, none⟩) (bytesOf (xP B nine)).size cp20 :: .slice (some ⟨q19, 0, none⟩) (bytesOf (xP B nine)).size cp20 :: .slice (some ⟨q19, 0, none⟩) (bytesOf (xP B nine)).size cp20 :: .pointer (some ⟨q19, 31, none⟩) :: iN .u8 (((bl ((bytesOf (xP B nine)))).getD 31 0).toNat) :: iN .u8 ((((bl ((bytesOf (xP B nine)))).getD 31 0).toNat) ||| 128) :: .pointer (some ⟨q19, 31, none⟩) :: .string (bytesOf (xP A nine)) :: iN .i64 ((bytesOf (xP A nine)).size) :: .bool true :: .bool true :: .string (bytesOf (xP A (bytesOf (xP B nine)))) :: iN .i64 ((bytesOf (xP A (bytesOf (xP B nine)))).size) :: .bool true :: .bool true :: .bool true :: .string (bytesOf (xP A (bytesOf (xP B nine)))) :: .string B :: .string (bytesOf (xP A nine)) :: .string (bytesOf (xP B (bytesOf (xP A nine)))) :: .bool true :: .bool true :: .bool true :: .string A :: .slice (some ⟨q19, 0, none⟩) (bytesOf (xP B nine)).size cp20 :: .string (oddS (xP B nine)) :: .string (bytesOf (xP A (oddS (xP B nine)))) :: .string (bytesOf (xP A (bytesOf (xP B nine)))) :: .bool true :: .bool true :: .bool true :: .string A :: .slice (some ⟨u30, 0, none⟩) 32 32 :: .string zS :: .string (bytesOf (xP A zS)) :: .slice (some ⟨u31, 0, none⟩) 32 32 :: .string zS :: .bool true :: .bool true :: List.replicate 0 un).toArray, []⟩) (by kernel_rfl) ?_
  refine wp_ret ?_
  repeat first | refine then_ret ?_ | refine block_ret ?_
  exact bodyPost_ret (v := .bool true) (by kernel_rfl) rfl ⟨rfl, h29.old⟩
end Go.Proofs.YtpaendmdcdeemaaDoor
