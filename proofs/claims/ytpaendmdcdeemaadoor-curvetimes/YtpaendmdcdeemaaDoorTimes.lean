/-
  the law of multiples.
-/
import Derived.Test.YtpaendmdcdeemaaDoorCvX
import Derived.Test.YtpaendmdcdeemaaDoorCuU
namespace Go.Proofs.YtpaendmdcdeemaaDoor
open Go.RowKit Num


set_option linter.unusedVariables false in
set_option maxRecDepth 100000 in
set_option maxHeartbeats 2000000 in
theorem CurveTimes_any (l1 : List UInt8) (hl1 : l1.length = 32) (m n : Nat) (hm : m ≤ 4294967295) (hn : n ≤ 4294967295) (w : World) (VV : Vars w) :
    Calls Tryd.prog 7 #[.agg (cs l1).toArray, iN .u32 m, iN .u32 n] w fun e w' => e = .returned (.bool true) ∧ Below w.heap.size w w' := by
  have H0 := HA.start w
  go_enter Tryd.func7, Tryd.ntmps7
  have hmn : m * n < 18446744073709551616 := Nat.lt_of_le_of_lt (Nat.mul_le_mul hm hn) (by decide)
  refine wp_seq ?_
  -- region 0
  refine wl_region ?_
  refine wl_make H0 41 (by kernel_rfl) (run_box41 (c := (cs l1).toArray) (by kernel_rfl)) ?_
  intro q1 w2 h3
  refine wl_val (.bool false) (by kernel_rfl) (by kernel_rfl) ?_
  refine wl_nil ?_
  refine then_at (F := ⟨(.agg (cs l1).toArray :: iN .u32 m :: iN .u32 n :: pt q1 :: un :: un :: .bool false :: List.replicate 84 un).toArray, []⟩) (by kernel_rfl) ?_
  refine wp_seq ?_
  refine wp_seq ?_
  -- region 1
  refine wl_region ?_
  refine wl_call (v := .bool true) h3 (by kernel_rfl) enter16 #[] (by kernel_rfl) (works_any w2 (VV.below h3.old VV.big)) ?_
  intro w4 h5
  refine wl_val (.bool false) (by kernel_rfl) (by kernel_rfl) ?_
  refine wl_nil ?_
  refine then_at (F := ⟨(.agg (cs l1).toArray :: iN .u32 m :: iN .u32 n :: pt q1 :: un :: un :: .bool false :: un :: un :: un :: un :: .bool true :: .bool false :: List.replicate 78 un).toArray, []⟩) (by kernel_rfl) ?_
  refine wp_cond_false (by kernel_rfl) ?_
  refine wp_skip ?_
  refine then_at (F := ⟨(.agg (cs l1).toArray :: iN .u32 m :: iN .u32 n :: pt q1 :: un :: un :: .bool false :: un :: un :: un :: un :: .bool true :: .bool false :: List.replicate 78 un).toArray, []⟩) (by kernel_rfl) ?_
  refine wp_seq ?_
  -- region 3
  refine wl_region ?_
  refine wl_load h5 0 rfl (by kernel_rfl) (by kernel_rfl) Tryd.underlying41 rfl (info41l l1 hl1) ?_
  obtain ⟨x1, y1, P1, n1, c1⟩ := point_ex l1 hl1
  refine wl_call (v := .agg (pr x1 y1)) h5 (by kernel_rfl) enter28 #[.agg (cs l1).toArray] (by kernel_rfl) (c1 w4 (VV.below h5.old VV.big)) ?_
  intro w6 h7
  refine wl_make h7 27 (by kernel_rfl) run_alloc27 ?_
  intro q8 w9 h10
  refine wl_fill (c' := pr x1 y1) h10 0 rfl (by kernel_rfl) (by kernel_rfl) (by kernel_rfl) (pr_sz x1 y1 0 0) (info27p x1 y1) (one_pr x1 y1) ?_
  intro w11 (h12 : HA w [(q8, 27, pr x1 y1), (q1, 41, (cs l1).toArray)] w11)
  refine wl_nil ?_
  refine then_at (F := ⟨(.agg (cs l1).toArray :: iN .u32 m :: iN .u32 n :: pt q1 :: un :: un :: .bool false :: pt q8 :: un :: un :: un :: .bool true :: .bool false :: .agg (cs l1).toArray :: .agg (pr x1 y1) :: List.replicate 76 un).toArray, []⟩) (by kernel_rfl) ?_
  refine wp_seq ?_
  -- region 4
  obtain ⟨x2, y2, n2, c2⟩ := mul_ex n1 (nuS m) (nuS_size m)
  obtain ⟨x3, y3, n3, c3⟩ := mul_ex n1 (nuS n) (nuS_size n)
  obtain ⟨B13, eB13⟩ : ∃ B, B = w11.heap.size := ⟨_, rfl⟩
  refine wp_region_ghost (fun g : Nat → Nat => (⟨(.agg (cs l1).toArray :: iN .u32 m :: iN .u32 n :: pt q1 :: un :: un :: .bool false :: pt q8 :: pt (g 10) :: pt (g 11) :: un :: .bool true :: .bool false :: .agg (cs l1).toArray :: .agg (pr x1 y1) :: .agg (pr x1 y1) :: iN .u32 m :: iN .u64 m :: .string (nuS m) :: .agg (pr x2 y2) :: .agg (pr x1 y1) :: iN .u32 n :: iN .u64 n :: .string (nuS n) :: .agg (pr x3 y3) :: List.replicate 66 un).toArray, []⟩ : Act)) (GS w [(q8, 27, pr x1 y1), (q1, 41, (cs l1).toArray)] B13 2 10 12 27 (pr 0 0) (fun j => match j with | 0 => pr x2 y2 | _ => pr x3 y3)) [.agg (pr x1 y1), iN .u32 m, iN .u64 m, .string (nuS m), .agg (pr x2 y2), .agg (pr x1 y1), iN .u32 n, iN .u64 n, .string (nuS n), .agg (pr x3 y3), .pointer (some ⟨0, 0, none⟩), .pointer (some ⟨0, 0, none⟩), undef, undef] (by kernel_rfl) (by kernel_rfl) (by kernel_rfl) (by kernel_rfl) (fun _ _ _ _ h => h) (fun d hd => GS.start h12.drew eB13 (by decide) (fun j _ => by rcases j with _ | j <;> exact (pr_sz _ _ _ _)) (fun j hj => hd j (Nat.lt_of_lt_of_le hj (by decide)))) ?_ ?_
  · refine AllGhost.cons (ghost_load 0 rfl (by decide) (fun _ => by kernel_rfl) (fun _ => by kernel_rfl) (fun _ => by kernel_rfl) Tryd.underlying27 rfl (info27p x1 y1)) ?_
    refine AllGhost.cons (ghost_plain (v := iN .u32 m) (by decide) (fun _ => by kernel_rfl) (fun _ => by kernel_rfl) (fun _ _ => (by kernel_rfl))) ?_
    refine AllGhost.cons (ghost_plain (v := iN .u64 m) (by decide) (fun _ => by kernel_rfl) (fun _ => by kernel_rfl) (fun _ _ => (run_conv .u64 Tryd.underlying30 Tryd.underlying22 (by kernel_rfl) (by simp only [top]; omega)))) ?_
    refine AllGhost.cons (ghost_call (v := .string (nuS m)) (by decide) (fun _ => by kernel_rfl) (fun _ => by kernel_rfl) enter30 #[iN .u64 m] (fun _ => by kernel_rfl) (fun w' h' => number_any m w')) ?_
    refine AllGhost.cons (ghost_call (v := .agg (pr x2 y2)) (by decide) (fun _ => by kernel_rfl) (fun _ => by kernel_rfl) enter24 #[.agg (pr x1 y1), .string (nuS m)] (fun _ => by kernel_rfl) (fun w' h' => c2 w' (VV.below h'.old VV.big))) ?_
    refine AllGhost.cons (ghost_load 0 rfl (by decide) (fun _ => by kernel_rfl) (fun _ => by kernel_rfl) (fun _ => by kernel_rfl) Tryd.underlying27 rfl (info27p x1 y1)) ?_
    refine AllGhost.cons (ghost_plain (v := iN .u32 n) (by decide) (fun _ => by kernel_rfl) (fun _ => by kernel_rfl) (fun _ _ => (by kernel_rfl))) ?_
    refine AllGhost.cons (ghost_plain (v := iN .u64 n) (by decide) (fun _ => by kernel_rfl) (fun _ => by kernel_rfl) (fun _ _ => (run_conv .u64 Tryd.underlying30 Tryd.underlying22 (by kernel_rfl) (by simp only [top]; omega)))) ?_
    refine AllGhost.cons (ghost_call (v := .string (nuS n)) (by decide) (fun _ => by kernel_rfl) (fun _ => by kernel_rfl) enter30 #[iN .u64 n] (fun _ => by kernel_rfl) (fun w' h' => number_any n w')) ?_
    refine AllGhost.cons (ghost_call (v := .agg (pr x3 y3)) (by decide) (fun _ => by kernel_rfl) (fun _ => by kernel_rfl) enter24 #[.agg (pr x1 y1), .string (nuS n)] (fun _ => by kernel_rfl) (fun w' h' => c3 w' (VV.below h'.old VV.big))) ?_
    refine AllGhost.cons (ghost_make 0 (by decide) rfl (fun _ => by kernel_rfl) (fun _ _ => by kernel_rfl) (fun _ _ => run_alloc27)) ?_
    refine AllGhost.cons (ghost_make 1 (by decide) rfl (fun _ => by kernel_rfl) (fun _ _ => by kernel_rfl) (fun _ _ => run_alloc27)) ?_
    refine AllGhost.cons (ghost_fill 0 (by decide) rfl (fun _ => by kernel_rfl) (fun _ => by kernel_rfl) (fun _ => by kernel_rfl) (fun _ => by kernel_rfl) (info27p x2 y2) (one_pr x2 y2) (by kernel_rfl)) ?_
    refine AllGhost.cons (ghost_fill 1 (by decide) rfl (fun _ => by kernel_rfl) (fun _ => by kernel_rfl) (fun _ => by kernel_rfl) (fun _ => by kernel_rfl) (info27p x3 y3) (one_pr x3 y3) (by kernel_rfl)) ?_
    exact AllGhost.nil
  intro g w14 g15
  have h16 : HA w [(g 11, 27, pr x3 y3), (g 10, 27, pr x2 y2), (q8, 27, pr x1 y1), (q1, 41, (cs l1).toArray)] w14 := g15.two
  clear g15 eB13
  generalize g 10 = q17 at h16 ⊢
  generalize g 11 = q18 at h16 ⊢
  clear g
  refine then_at (F := ⟨(.agg (cs l1).toArray :: iN .u32 m :: iN .u32 n :: pt q1 :: un :: un :: .bool false :: pt q8 :: pt q17 :: pt q18 :: un :: .bool true :: .bool false :: .agg (cs l1).toArray :: .agg (pr x1 y1) :: .agg (pr x1 y1) :: iN .u32 m :: iN .u64 m :: .string (nuS m) :: .agg (pr x2 y2) :: .agg (pr x1 y1) :: iN .u32 n :: iN .u64 n :: .string (nuS n) :: .agg (pr x3 y3) :: List.replicate 66 un).toArray, []⟩) (by kernel_rfl) ?_
  refine wp_seq ?_
  refine wp_seq ?_
  -- region 5
  obtain ⟨x4, y4, n4, c4⟩ := add_ex n2 n3
  obtain ⟨x5, y5, n5, c5⟩ := mul_ex n1 (nuS (m + n)) (nuS_size (m + n))
  obtain ⟨x6, y6, n6, c6⟩ := mul_ex n2 (nuS n) (nuS_size n)
  obtain ⟨x7, y7, n7, c7⟩ := mul_ex n1 (nuS (m * n)) (nuS_size (m * n))
  obtain ⟨x8, y8, n8, c8⟩ := mul_ex n3 (nuS m) (nuS_size m)
  refine wp_region_sure ⟨(.agg (cs l1).toArray :: iN .u32 m :: iN .u32 n :: pt q1 :: un :: un :: .bool false :: pt q8 :: pt q17 :: pt q18 :: un :: .bool true :: .bool false :: .agg (cs l1).toArray :: .agg (pr x1 y1) :: .agg (pr x1 y1) :: iN .u32 m :: iN .u64 m :: .string (nuS m) :: .agg (pr x2 y2) :: .agg (pr x1 y1) :: iN .u32 n :: iN .u64 n :: .string (nuS n) :: .agg (pr x3 y3) :: .agg (pr x2 y2) :: .agg (pr x3 y3) :: .agg (pr x4 y4) :: .agg (pr x1 y1) :: iN .u32 m :: iN .u64 m :: iN .u32 n :: iN .u64 n :: iN .u64 (m + n) :: .string (nuS (m + n)) :: .agg (pr x5 y5) :: .bool true :: .bool false :: .bool false :: .agg (pr x2 y2) :: iN .u32 n :: iN .u64 n :: .string (nuS n) :: .agg (pr x6 y6) :: .agg (pr x1 y1) :: iN .u32 m :: iN .u64 m :: iN .u32 n :: iN .u64 n :: iN .u64 (m * n) :: .string (nuS (m * n)) :: .agg (pr x7 y7) :: .bool true :: .bool false :: .bool false :: .bool false :: .agg (pr x3 y3) :: iN .u32 m :: iN .u64 m :: .string (nuS m) :: .agg (pr x8 y8) :: .agg (pr x2 y2) :: iN .u32 n :: iN .u64 n :: .string (nuS n) :: .agg (pr x6 y6) :: .bool true :: .bool false :: .bool false :: List.replicate 22 un).toArray, []⟩ (HA w [(q18, 27, pr x3 y3), (q17, 27, pr x2 y2), (q8, 27, pr x1 y1), (q1, 41, (cs l1).toArray)]) [.agg (pr x2 y2), .agg (pr x3 y3), .agg (pr x4 y4), .agg (pr x1 y1), iN .u32 m, iN .u64 m, iN .u32 n, iN .u64 n, iN .u64 (m + n), .string (nuS (m + n)), .agg (pr x5 y5), .bool true, .bool false, .bool false, .agg (pr x2 y2), iN .u32 n, iN .u64 n, .string (nuS n), .agg (pr x6 y6), .agg (pr x1 y1), iN .u32 m, iN .u64 m, iN .u32 n, iN .u64 n, iN .u64 (m * n), .string (nuS (m * n)), .agg (pr x7 y7), .bool true, .bool false, .bool false, .bool false, .agg (pr x3 y3), iN .u32 m, iN .u64 m, .string (nuS m), .agg (pr x8 y8), .agg (pr x2 y2), iN .u32 n, iN .u64 n, .string (nuS n), .agg (pr x6 y6), .bool true, .bool false, .bool false] (by kernel_rfl) (by kernel_rfl) (by kernel_rfl) (by kernel_rfl) (fun _ _ _ h => h) h16.drew ?_ ?_
  · refine AllSure.cons (OpSure.take (v := .agg (pr x2 y2)) (by kernel_rfl) (by kernel_rfl) (fun _ h => run_load_blk (by kernel_rfl) (h.get 1 rfl) Tryd.underlying27 rfl (info27p x2 y2))) ?_
    refine AllSure.cons (OpSure.take (v := .agg (pr x3 y3)) (by kernel_rfl) (by kernel_rfl) (fun _ h => run_load_blk (by kernel_rfl) (h.get 0 rfl) Tryd.underlying27 rfl (info27p x3 y3))) ?_
    refine AllSure.cons (sure_call (v := .agg (pr x4 y4)) (by kernel_rfl) (by kernel_rfl) enter18 HA.keep #[.agg (pr x2 y2), .agg (pr x3 y3)] (by kernel_rfl) (fun w' h' => c4 w' (VV.below h'.old VV.big))) ?_
    refine AllSure.cons (OpSure.take (v := .agg (pr x1 y1)) (by kernel_rfl) (by kernel_rfl) (fun _ h => run_load_blk (by kernel_rfl) (h.get 2 rfl) Tryd.underlying27 rfl (info27p x1 y1))) ?_
    refine AllSure.cons (OpSure.take (v := iN .u32 m) (by kernel_rfl) (by kernel_rfl) (fun _ _ => (by kernel_rfl))) ?_
    refine AllSure.cons (OpSure.take (v := iN .u64 m) (by kernel_rfl) (by kernel_rfl) (fun _ _ => (run_conv .u64 Tryd.underlying30 Tryd.underlying22 (by kernel_rfl) (by simp only [top]; omega)))) ?_
    refine AllSure.cons (OpSure.take (v := iN .u32 n) (by kernel_rfl) (by kernel_rfl) (fun _ _ => (by kernel_rfl))) ?_
    refine AllSure.cons (OpSure.take (v := iN .u64 n) (by kernel_rfl) (by kernel_rfl) (fun _ _ => (run_conv .u64 Tryd.underlying30 Tryd.underlying22 (by kernel_rfl) (by simp only [top]; omega)))) ?_
    refine AllSure.cons (OpSure.take (v := iN .u64 (m + n)) (by kernel_rfl) (by kernel_rfl) (fun _ _ => (run_add (k := .u64) (a := m) (b := n) (by kernel_rfl) (by kernel_rfl) (by simp only [top]; omega)))) ?_
    refine AllSure.cons (sure_call (v := .string (nuS (m + n))) (by kernel_rfl) (by kernel_rfl) enter30 HA.keep #[iN .u64 (m + n)] (by kernel_rfl) (fun w' h' => number_any (m + n) w')) ?_
    refine AllSure.cons (sure_call (v := .agg (pr x5 y5)) (by kernel_rfl) (by kernel_rfl) enter24 HA.keep #[.agg (pr x1 y1), .string (nuS (m + n))] (by kernel_rfl) (fun w' h' => c5 w' (VV.below h'.old VV.big))) ?_
    refine AllSure.cons (sure_call (v := .bool true) (by kernel_rfl) (by kernel_rfl) enter22 HA.keep #[.agg (pr x4 y4), .agg (pr x5 y5)] (by kernel_rfl) (fun w' h' => same_yes n4 n5 (by rw [nuS_num m (by omega), nuS_num n (by omega), nuS_num (m + n) (by omega), mP_add]) w')) ?_
    refine AllSure.cons (OpSure.take (v := .bool false) (by kernel_rfl) (by kernel_rfl) (fun _ _ => (by kernel_rfl))) ?_
    refine AllSure.cons (OpSure.take (v := .bool false) (by kernel_rfl) (by kernel_rfl) (fun _ _ => (by kernel_rfl))) ?_
    refine AllSure.cons (OpSure.take (v := .agg (pr x2 y2)) (by kernel_rfl) (by kernel_rfl) (fun _ h => run_load_blk (by kernel_rfl) (h.get 1 rfl) Tryd.underlying27 rfl (info27p x2 y2))) ?_
    refine AllSure.cons (OpSure.take (v := iN .u32 n) (by kernel_rfl) (by kernel_rfl) (fun _ _ => (by kernel_rfl))) ?_
    refine AllSure.cons (OpSure.take (v := iN .u64 n) (by kernel_rfl) (by kernel_rfl) (fun _ _ => (run_conv .u64 Tryd.underlying30 Tryd.underlying22 (by kernel_rfl) (by simp only [top]; omega)))) ?_
    refine AllSure.cons (sure_call (v := .string (nuS n)) (by kernel_rfl) (by kernel_rfl) enter30 HA.keep #[iN .u64 n] (by kernel_rfl) (fun w' h' => number_any n w')) ?_
    refine AllSure.cons (sure_call (v := .agg (pr x6 y6)) (by kernel_rfl) (by kernel_rfl) enter24 HA.keep #[.agg (pr x2 y2), .string (nuS n)] (by kernel_rfl) (fun w' h' => c6 w' (VV.below h'.old VV.big))) ?_
    refine AllSure.cons (OpSure.take (v := .agg (pr x1 y1)) (by kernel_rfl) (by kernel_rfl) (fun _ h => run_load_blk (by kernel_rfl) (h.get 2 rfl) Tryd.underlying27 rfl (info27p x1 y1))) ?_
    refine AllSure.cons (OpSure.take (v := iN .u32 m) (by kernel_rfl) (by kernel_rfl) (fun _ _ => (by kernel_rfl))) ?_
    refine AllSure.cons (OpSure.take (v := iN .u64 m) (by kernel_rfl) (by kernel_rfl) (fun _ _ => (run_conv .u64 Tryd.underlying30 Tryd.underlying22 (by kernel_rfl) (by simp only [top]; omega)))) ?_
    refine AllSure.cons (OpSure.take (v := iN .u32 n) (by kernel_rfl) (by kernel_rfl) (fun _ _ => (by kernel_rfl))) ?_
    refine AllSure.cons (OpSure.take (v := iN .u64 n) (by kernel_rfl) (by kernel_rfl) (fun _ _ => (run_conv .u64 Tryd.underlying30 Tryd.underlying22 (by kernel_rfl) (by simp only [top]; omega)))) ?_
    refine AllSure.cons (OpSure.take (v := iN .u64 (m * n)) (by kernel_rfl) (by kernel_rfl) (fun _ _ => (run_mul (k := .u64) (a := m) (b := n) (by kernel_rfl) (by kernel_rfl) (by simp only [top]; exact hmn)))) ?_
    refine AllSure.cons (sure_call (v := .string (nuS (m * n))) (by kernel_rfl) (by kernel_rfl) enter30 HA.keep #[iN .u64 (m * n)] (by kernel_rfl) (fun w' h' => number_any (m * n) w')) ?_
    refine AllSure.cons (sure_call (v := .agg (pr x7 y7)) (by kernel_rfl) (by kernel_rfl) enter24 HA.keep #[.agg (pr x1 y1), .string (nuS (m * n))] (by kernel_rfl) (fun w' h' => c7 w' (VV.below h'.old VV.big))) ?_
    refine AllSure.cons (sure_call (v := .bool true) (by kernel_rfl) (by kernel_rfl) enter22 HA.keep #[.agg (pr x6 y6), .agg (pr x7 y7)] (by kernel_rfl) (fun w' h' => same_yes n6 n7 (by rw [nuS_num m (by omega), nuS_num n (by omega), nuS_num (m * n) hmn, mP_mul]) w')) ?_
    refine AllSure.cons (OpSure.take (v := .bool false) (by kernel_rfl) (by kernel_rfl) (fun _ _ => (by kernel_rfl))) ?_
    refine AllSure.cons (OpSure.take (v := .bool false) (by kernel_rfl) (by kernel_rfl) (fun _ _ => (by kernel_rfl))) ?_
    refine AllSure.cons (OpSure.take (v := .bool false) (by kernel_rfl) (by kernel_rfl) (fun _ _ => (by kernel_rfl))) ?_
    refine AllSure.cons (OpSure.take (v := .agg (pr x3 y3)) (by kernel_rfl) (by kernel_rfl) (fun _ h => run_load_blk (by kernel_rfl) (h.get 0 rfl) Tryd.underlying27 rfl (info27p x3 y3))) ?_
    refine AllSure.cons (OpSure.take (v := iN .u32 m) (by kernel_rfl) (by kernel_rfl) (fun _ _ => (by kernel_rfl))) ?_
    refine AllSure.cons (OpSure.take (v := iN .u64 m) (by kernel_rfl) (by kernel_rfl) (fun _ _ => (run_conv .u64 Tryd.underlying30 Tryd.underlying22 (by kernel_rfl) (by simp only [top]; omega)))) ?_
    refine AllSure.cons (sure_call (v := .string (nuS m)) (by kernel_rfl) (by kernel_rfl) enter30 HA.keep #[iN .u64 m] (by kernel_rfl) (fun w' h' => number_any m w')) ?_
    refine AllSure.cons (sure_call (v := .agg (pr x8 y8)) (by kernel_rfl) (by kernel_rfl) enter24 HA.keep #[.agg (pr x3 y3), .string (nuS m)] (by kernel_rfl) (fun w' h' => c8 w' (VV.below h'.old VV.big))) ?_
    refine AllSure.cons (OpSure.take (v := .agg (pr x2 y2)) (by kernel_rfl) (by kernel_rfl) (fun _ h => run_load_blk (by kernel_rfl) (h.get 1 rfl) Tryd.underlying27 rfl (info27p x2 y2))) ?_
    refine AllSure.cons (OpSure.take (v := iN .u32 n) (by kernel_rfl) (by kernel_rfl) (fun _ _ => (by kernel_rfl))) ?_
    refine AllSure.cons (OpSure.take (v := iN .u64 n) (by kernel_rfl) (by kernel_rfl) (fun _ _ => (run_conv .u64 Tryd.underlying30 Tryd.underlying22 (by kernel_rfl) (by simp only [top]; omega)))) ?_
    refine AllSure.cons (sure_call (v := .string (nuS n)) (by kernel_rfl) (by kernel_rfl) enter30 HA.keep #[iN .u64 n] (by kernel_rfl) (fun w' h' => number_any n w')) ?_
    refine AllSure.cons (sure_call (v := .agg (pr x6 y6)) (by kernel_rfl) (by kernel_rfl) enter24 HA.keep #[.agg (pr x2 y2), .string (nuS n)] (by kernel_rfl) (fun w' h' => c6 w' (VV.below h'.old VV.big))) ?_
    refine AllSure.cons (sure_call (v := .bool true) (by kernel_rfl) (by kernel_rfl) enter22 HA.keep #[.agg (pr x8 y8), .agg (pr x6 y6)] (by kernel_rfl) (fun w' h' => same_yes n8 n6 (mP_swap _ _ _) w')) ?_
    refine AllSure.cons (OpSure.take (v := .bool false) (by kernel_rfl) (by kernel_rfl) (fun _ _ => (by kernel_rfl))) ?_
    refine AllSure.cons (OpSure.take (v := .bool false) (by kernel_rfl) (by kernel_rfl) (fun _ _ => (by kernel_rfl))) ?_
    exact AllSure.nil
  intro w19 h20
  refine then_at (F := ⟨(.agg (cs l1).toArray :: iN .u32 m :: iN .u32 n :: pt q1 :: un :: un :: .bool false :: pt q8 :: pt q17 :: pt q18 :: un :: .bool true :: .bool false :: .agg (cs l1).toArray :: .agg (pr x1 y1) :: .agg (pr x1 y1) :: iN .u32 m :: iN .u64 m :: .string (nuS m) :: .agg (pr x2 y2) :: .agg (pr x1 y1) :: iN .u32 n :: iN .u64 n :: .string (nuS n) :: .agg (pr x3 y3) :: .agg (pr x2 y2) :: .agg (pr x3 y3) :: .agg (pr x4 y4) :: .agg (pr x1 y1) :: iN .u32 m :: iN .u64 m :: iN .u32 n :: iN .u64 n :: iN .u64 (m + n) :: .string (nuS (m + n)) :: .agg (pr x5 y5) :: .bool true :: .bool false :: .bool false :: .agg (pr x2 y2) :: iN .u32 n :: iN .u64 n :: .string (nuS n) :: .agg (pr x6 y6) :: .agg (pr x1 y1) :: iN .u32 m :: iN .u64 m :: iN .u32 n :: iN .u64 n :: iN .u64 (m * n) :: .string (nuS (m * n)) :: .agg (pr x7 y7) :: .bool true :: .bool false :: .bool false :: .bool false :: .agg (pr x3 y3) :: iN .u32 m :: iN .u64 m :: .string (nuS m) :: .agg (pr x8 y8) :: .agg (pr x2 y2) :: iN .u32 n :: iN .u64 n :: .string (nuS n) :: .agg (pr x6 y6) :: .bool true :: .bool false :: .bool false :: List.replicate 22 un).toArray, []⟩) (by kernel_rfl) ?_
  refine wp_cond_false (by kernel_rfl) ?_
  refine wp_skip ?_
  refine then_at (F := ⟨(.agg (cs l1).toArray :: iN .u32 m :: iN .u32 n :: pt q1 :: un :: un :: .bool false :: pt q8 :: pt q17 :: pt q18 :: un :: .bool true :: .bool false :: .agg (cs l1).toArray :: .agg (pr x1 y1) :: .agg (pr x1 y1) :: iN .u32 m :: iN .u64 m :: .string (nuS m) :: .agg (pr x2 y2) :: .agg (pr x1 y1) :: iN .u32 n :: iN .u64 n :: .string (nuS n) :: .agg (pr x3 y3) :: .agg (pr x2 y2) :: .agg (pr x3 y3) :: .agg (pr x4 y4) :: .agg (pr x1 y1) :: iN .u32 m :: iN .u64 m :: iN .u32 n :: iN .u64 n :: iN .u64 (m + n) :: .string (nuS (m + n)) :: .agg (pr x5 y5) :: .bool true :: .bool false :: .bool false :: .agg (pr x2 y2) :: iN .u32 n :: iN .u64 n :: .string (nuS n) :: .agg (pr x6 y6) :: .agg (pr x1 y1) :: iN .u32 m :: iN .u64 m :: iN .u32 n :: iN .u64 n :: iN .u64 (m * n) :: .string (nuS (m * n)) :: .agg (pr x7 y7) :: .bool true :: .bool false :: .bool false :: .bool false :: .agg (pr x3 y3) :: iN .u32 m :: iN .u64 m :: .string (nuS m) :: .agg (pr x8 y8) :: .agg (pr x2 y2) :: iN .u32 n :: iN .u64 n :: .string (nuS n) :: .agg (pr x6 y6) :: .bool true :: .bool false :: .bool false :: List.replicate 22 un).toArray, []⟩) (by kernel_rfl) ?_
  refine wp_seq ?_
  -- region 7
  refine wl_region ?_
  refine wl_call (v := .string sL) h20 (by kernel_rfl) enter31 #[.string hexl] (by kernel_rfl) ((by have hz := hex_any hexl rfl hexl_ok w19; rw [hexl_is] at hz; exact hz)) ?_
  intro w21 h22
  refine wl_val (.string sL) (by kernel_rfl) (by kernel_rfl) ?_
  refine wl_nil ?_
  refine then_at (F := ⟨(.agg (cs l1).toArray :: iN .u32 m :: iN .u32 n :: pt q1 :: un :: un :: .bool false :: pt q8 :: pt q17 :: pt q18 :: .string sL :: .bool true :: .bool false :: .agg (cs l1).toArray :: .agg (pr x1 y1) :: .agg (pr x1 y1) :: iN .u32 m :: iN .u64 m :: .string (nuS m) :: .agg (pr x2 y2) :: .agg (pr x1 y1) :: iN .u32 n :: iN .u64 n :: .string (nuS n) :: .agg (pr x3 y3) :: .agg (pr x2 y2) :: .agg (pr x3 y3) :: .agg (pr x4 y4) :: .agg (pr x1 y1) :: iN .u32 m :: iN .u64 m :: iN .u32 n :: iN .u64 n :: iN .u64 (m + n) :: .string (nuS (m + n)) :: .agg (pr x5 y5) :: .bool true :: .bool false :: .bool false :: .agg (pr x2 y2) :: iN .u32 n :: iN .u64 n :: .string (nuS n) :: .agg (pr x6 y6) :: .agg (pr x1 y1) :: iN .u32 m :: iN .u64 m :: iN .u32 n :: iN .u64 n :: iN .u64 (m * n) :: .string (nuS (m * n)) :: .agg (pr x7 y7) :: .bool true :: .bool false :: .bool false :: .bool false :: .agg (pr x3 y3) :: iN .u32 m :: iN .u64 m :: .string (nuS m) :: .agg (pr x8 y8) :: .agg (pr x2 y2) :: iN .u32 n :: iN .u64 n :: .string (nuS n) :: .agg (pr x6 y6) :: .bool true :: .bool false :: .bool false :: .string sL :: List.replicate 21 un).toArray, []⟩) (by kernel_rfl) ?_
  refine wp_seq ?_
  -- region 8
  obtain ⟨x9, y9, n9, c9⟩ := mul_ex n1 (nuS 8) (nuS_size 8)
  obtain ⟨x10, y10, n10, c10⟩ := mul_ex n9 sL sL_size
  obtain ⟨x11, y11, n11, c11⟩ := mul_ex n1 (nuS 0) (nuS_size 0)
  obtain ⟨x12, y12, n12, c12⟩ := mul_ex n1 (nuS 1) (nuS_size 1)
  refine wp_region_sure ⟨(.agg (cs l1).toArray :: iN .u32 m :: iN .u32 n :: pt q1 :: un :: un :: .bool true :: pt q8 :: pt q17 :: pt q18 :: .string sL :: .bool true :: .bool false :: .agg (cs l1).toArray :: .agg (pr x1 y1) :: .agg (pr x1 y1) :: iN .u32 m :: iN .u64 m :: .string (nuS m) :: .agg (pr x2 y2) :: .agg (pr x1 y1) :: iN .u32 n :: iN .u64 n :: .string (nuS n) :: .agg (pr x3 y3) :: .agg (pr x2 y2) :: .agg (pr x3 y3) :: .agg (pr x4 y4) :: .agg (pr x1 y1) :: iN .u32 m :: iN .u64 m :: iN .u32 n :: iN .u64 n :: iN .u64 (m + n) :: .string (nuS (m + n)) :: .agg (pr x5 y5) :: .bool true :: .bool false :: .bool false :: .agg (pr x2 y2) :: iN .u32 n :: iN .u64 n :: .string (nuS n) :: .agg (pr x6 y6) :: .agg (pr x1 y1) :: iN .u32 m :: iN .u64 m :: iN .u32 n :: iN .u64 n :: iN .u64 (m * n) :: .string (nuS (m * n)) :: .agg (pr x7 y7) :: .bool true :: .bool false :: .bool false :: .bool false :: .agg (pr x3 y3) :: iN .u32 m :: iN .u64 m :: .string (nuS m) :: .agg (pr x8 y8) :: .agg (pr x2 y2) :: iN .u32 n :: iN .u64 n :: .string (nuS n) :: .agg (pr x6 y6) :: .bool true :: .bool false :: .bool false :: .string sL :: .agg (pr x1 y1) :: .string (nuS 8) :: .agg (pr x9 y9) :: .string sL :: .agg (pr x10 y10) :: .agg (pr 0 0) :: .bool true :: .bool true :: .agg (pr x1 y1) :: .string (nuS 0) :: .agg (pr x11 y11) :: .agg (pr 0 0) :: .bool true :: .bool true :: .bool true :: .agg (pr x1 y1) :: .string (nuS 1) :: .agg (pr x12 y12) :: .agg (pr x1 y1) :: .bool true :: .bool true :: List.replicate 0 un).toArray, []⟩ (HA w [(q18, 27, pr x3 y3), (q17, 27, pr x2 y2), (q8, 27, pr x1 y1), (q1, 41, (cs l1).toArray)]) [.agg (pr x1 y1), .string (nuS 8), .agg (pr x9 y9), .string sL, .agg (pr x10 y10), .agg (pr 0 0), .bool true, .bool true, .agg (pr x1 y1), .string (nuS 0), .agg (pr x11 y11), .agg (pr 0 0), .bool true, .bool true, .bool true, .agg (pr x1 y1), .string (nuS 1), .agg (pr x12 y12), .agg (pr x1 y1), .bool true, .bool true, .bool true] (by kernel_rfl) (by kernel_rfl) (by kernel_rfl) (by kernel_rfl) (fun _ _ _ h => h) h22.drew ?_ ?_
  · refine AllSure.cons (OpSure.take (v := .agg (pr x1 y1)) (by kernel_rfl) (by kernel_rfl) (fun _ h => run_load_blk (by kernel_rfl) (h.get 2 rfl) Tryd.underlying27 rfl (info27p x1 y1))) ?_
    refine AllSure.cons (sure_call (v := .string (nuS 8)) (by kernel_rfl) (by kernel_rfl) enter30 HA.keep #[iN .u64 8] (by kernel_rfl) (fun w' h' => number_any 8 w')) ?_
    refine AllSure.cons (sure_call (v := .agg (pr x9 y9)) (by kernel_rfl) (by kernel_rfl) enter24 HA.keep #[.agg (pr x1 y1), .string (nuS 8)] (by kernel_rfl) (fun w' h' => c9 w' (VV.below h'.old VV.big))) ?_
    refine AllSure.cons (OpSure.take (v := .string sL) (by kernel_rfl) (by kernel_rfl) (fun _ _ => (by kernel_rfl))) ?_
    refine AllSure.cons (sure_call (v := .agg (pr x10 y10)) (by kernel_rfl) (by kernel_rfl) enter24 HA.keep #[.agg (pr x9 y9), .string sL] (by kernel_rfl) (fun w' h' => c10 w' (VV.below h'.old VV.big))) ?_
    refine AllSure.cons (sure_call (v := .agg (pr 0 0)) (by kernel_rfl) (by kernel_rfl) enter29 HA.keep #[] (by kernel_rfl) (fun w' h' => None_any w')) ?_
    refine AllSure.cons (sure_call (v := .bool true) (by kernel_rfl) (by kernel_rfl) enter22 HA.keep #[.agg (pr x10 y10), .agg (pr 0 0)] (by kernel_rfl) (fun w' h' => same_yes n10 Pn.none (by rw [nuS_num 8 (by omega), sL_num, ← mP_mul, all_ord]) w')) ?_
    refine AllSure.cons (OpSure.take (v := .bool true) (by kernel_rfl) (by kernel_rfl) (fun _ _ => (by kernel_rfl))) ?_
    refine AllSure.cons (OpSure.take (v := .agg (pr x1 y1)) (by kernel_rfl) (by kernel_rfl) (fun _ h => run_load_blk (by kernel_rfl) (h.get 2 rfl) Tryd.underlying27 rfl (info27p x1 y1))) ?_
    refine AllSure.cons (sure_call (v := .string (nuS 0)) (by kernel_rfl) (by kernel_rfl) enter30 HA.keep #[iN .u64 0] (by kernel_rfl) (fun w' h' => number_any 0 w')) ?_
    refine AllSure.cons (sure_call (v := .agg (pr x11 y11)) (by kernel_rfl) (by kernel_rfl) enter24 HA.keep #[.agg (pr x1 y1), .string (nuS 0)] (by kernel_rfl) (fun w' h' => c11 w' (VV.below h'.old VV.big))) ?_
    refine AllSure.cons (sure_call (v := .agg (pr 0 0)) (by kernel_rfl) (by kernel_rfl) enter29 HA.keep #[] (by kernel_rfl) (fun w' h' => None_any w')) ?_
    refine AllSure.cons (sure_call (v := .bool true) (by kernel_rfl) (by kernel_rfl) enter22 HA.keep #[.agg (pr x11 y11), .agg (pr 0 0)] (by kernel_rfl) (fun w' h' => same_yes n11 Pn.none (by rw [nuS_num 0 (by omega)]; rfl) w')) ?_
    refine AllSure.cons (OpSure.take (v := .bool true) (by kernel_rfl) (by kernel_rfl) (fun _ _ => (by kernel_rfl))) ?_
    refine AllSure.cons (OpSure.take (v := .bool true) (by kernel_rfl) (by kernel_rfl) (fun _ _ => (by kernel_rfl))) ?_
    refine AllSure.cons (OpSure.take (v := .agg (pr x1 y1)) (by kernel_rfl) (by kernel_rfl) (fun _ h => run_load_blk (by kernel_rfl) (h.get 2 rfl) Tryd.underlying27 rfl (info27p x1 y1))) ?_
    refine AllSure.cons (sure_call (v := .string (nuS 1)) (by kernel_rfl) (by kernel_rfl) enter30 HA.keep #[iN .u64 1] (by kernel_rfl) (fun w' h' => number_any 1 w')) ?_
    refine AllSure.cons (sure_call (v := .agg (pr x12 y12)) (by kernel_rfl) (by kernel_rfl) enter24 HA.keep #[.agg (pr x1 y1), .string (nuS 1)] (by kernel_rfl) (fun w' h' => c12 w' (VV.below h'.old VV.big))) ?_
    refine AllSure.cons (OpSure.take (v := .agg (pr x1 y1)) (by kernel_rfl) (by kernel_rfl) (fun _ h => run_load_blk (by kernel_rfl) (h.get 2 rfl) Tryd.underlying27 rfl (info27p x1 y1))) ?_
    refine AllSure.cons (sure_call (v := .bool true) (by kernel_rfl) (by kernel_rfl) enter22 HA.keep #[.agg (pr x12 y12), .agg (pr x1 y1)] (by kernel_rfl) (fun w' h' => same_yes n12 n1 (by rw [nuS_num 1 (by omega), mP_one]) w')) ?_
    refine AllSure.cons (OpSure.take (v := .bool true) (by kernel_rfl) (by kernel_rfl) (fun _ _ => (by kernel_rfl))) ?_
    refine AllSure.cons (OpSure.take (v := .bool true) (by kernel_rfl) (by kernel_rfl) (fun _ _ => (by kernel_rfl))) ?_
    exact AllSure.nil
  intro w23 h24
  refine then_at (F := ⟨(.agg (cs l1).toArray :: iN .u32 m :: iN .u32 n :: pt q1 :: un :: un :: .bool true :: pt q8 :: pt q17 :: pt q18 :: .string sL :: .bool true :: .bool false :: .agg (cs l1).toArray :: .agg (pr x1 y1) :: .agg (pr x1 y1) :: iN .u32 m :: iN .u64 m :: .string (nuS m) :: .agg (pr x2 y2) :: .agg (pr x1 y1) :: iN .u32 n :: iN .u64 n :: .string (nuS n) :: .agg (pr x3 y3) :: .agg (pr x2 y2) :: .agg (pr x3 y3) :: .agg (pr x4 y4) :: .agg (pr x1 y1) :: iN .u32 m :: iN .u64 m :: iN .u32 n :: iN .u64 n :: iN .u64 (m + n) :: .string (nuS (m + n)) :: .agg (pr x5 y5) :: .bool true :: .bool false :: .bool false :: .agg (pr x2 y2) :: iN .u32 n :: iN .u64 n :: .string (nuS n) :: .agg (pr x6 y6) :: .agg (pr x1 y1) :: iN .u32 m :: iN .u64 m :: iN .u32 n :: iN .u64 n :: iN .u64 (m * n) :: .string (nuS (m * n)) :: .agg (pr x7 y7) :: .bool true :: .bool false :: .bool false :: .bool false :: .agg (pr x3 y3) :: iN .u32 m :: iN .u64 m :: .string (nuS m) :: .agg (pr x8 y8) :: .agg (pr x2 y2) :: iN .u32 n :: iN .u64 n :: .string (nuS n) :: .agg (pr x6 y6) :: .bool true :: .bool false :: .bool false :: .string sL :: .agg (pr x1 y1) :: .string (nuS 8) :: .agg (pr x9 y9) :: .string sL :: .agg (pr x10 y10) :: .agg (pr 0 0) :: .bool true :: .bool true :: .agg (pr x1 y1) :: .string (nuS 0) :: .agg (pr x11 y11) :: .agg (pr 0 0) :: .bool true :: .bool true :: .bool true :: .agg (pr x1 y1) :: .string (nuS 1) :: .agg (pr x12 y12) :: .agg (pr x1 y1) :: .bool true :: .bool true :: List.replicate 0 un).toArray, []⟩) (by kernel_rfl) ?_
  refine wp_ret ?_
  repeat first | refine then_ret ?_ | refine block_ret ?_
  exact bodyPost_ret (v := .bool true) (by kernel_rfl) rfl ⟨rfl, h24.old⟩
end Go.Proofs.YtpaendmdcdeemaaDoor
