/-
  FieldSums: the walk.
-/
import Derived.Test.YtbmfmamhidccbaaDoorRefG
namespace Go.Proofs.YtbmfmamhidccbaaDoor
open Go.RowKit Num

set_option linter.unusedVariables false in
set_option maxRecDepth 100000 in
set_option maxHeartbeats 4000000 in
theorem sums_eq (c0 c1 : Array Value) (a b : Nat) (hz0 : c0.size = 32) (hz1 : c1.size = 32) (ha : a < P) (hb : b < P) (hab : a = b)
    (KA : ∀ w, Vars w → Calls Tryd.prog 20 #[.agg c0] w fun e w' => e = .returned (arr a) ∧ Below w.heap.size w w')
    (KB : ∀ w, Vars w → Calls Tryd.prog 20 #[.agg c1] w fun e w' => e = .returned (arr b) ∧ Below w.heap.size w w')
    (RA : ∀ w, Calls Tryd.prog 21 #[.agg c0] w fun e w' => e = .returned (rarr a) ∧ Below w.heap.size w w')
    (RB : ∀ w, Calls Tryd.prog 21 #[.agg c1] w fun e w' => e = .returned (rarr b) ∧ Below w.heap.size w w') (w : World) (V : Vars w) :
    Calls Tryd.prog 4 #[.agg c0, .agg c1] w fun e w' => e = .returned (.bool true) ∧ Below w.heap.size w w' := by
  have VV := hide V
  have H0 := HA.start w
  clear V
  go_enter Tryd.func4, Tryd.ntmps4
  refine wp_seq ?_
  -- region 0
  refine wl_region ?_
  refine wl_make H0 40 (by kernel_rfl) (run_box40 (c := c0) (by kernel_rfl)) ?_
  intro q1 w2 h3
  refine wl_make h3 40 (by kernel_rfl) (run_box40 (c := c1) (by kernel_rfl)) ?_
  intro q4 w5 h6
  refine wl_val (.bool false) (by kernel_rfl) (by kernel_rfl) ?_
  refine wl_nil ?_
  refine then_at (F := ⟨(.agg c0 :: .agg c1 :: pt q1 :: pt q4 :: .bool false :: List.replicate 69 un).toArray, []⟩) (by kernel_rfl) ?_
  refine wp_seq ?_
  -- region 1
  obtain ⟨B7, eB7⟩ : ∃ B, B = w5.heap.size := ⟨_, rfl⟩
  refine wp_region_ghost (fun g : Nat → Nat => (⟨(.agg c0 :: .agg c1 :: pt q1 :: pt q4 :: .bool false :: pt (g 4) :: pt (g 5) :: un :: un :: .agg c0 :: arr a :: .agg c1 :: arr b :: List.replicate 61 un).toArray, []⟩ : Act)) (GS w [(q4, 40, c1), (q1, 40, c0)] B7 2 4 6 26 (el 0) (fun j => el ([a, b].getD j a))) [.agg c0, arr a, .agg c1, arr b, .pointer (some ⟨0, 0, none⟩), .pointer (some ⟨0, 0, none⟩), undef, undef] (by kernel_rfl) (by kernel_rfl) (by kernel_rfl) (by kernel_rfl) (fun _ _ _ _ h => h) (fun d hd => GS.start h6.drew eB7 (by decide) (fun _ _ => rfl) (fun j hj => hd j (Nat.lt_of_lt_of_le hj (by decide)))) ?_ ?_
  · refine AllGhost.cons (ghost_load 1 rfl (by decide) (fun _ => by kernel_rfl) (fun _ => by kernel_rfl) (fun _ => by kernel_rfl) Tryd.underlying40 rfl (by first | (show _ = some c0.size; rw [hz0]; exact info40) | (show _ = some c1.size; rw [hz1]; exact info40))) ?_
    refine AllGhost.cons (ghost_call (v := arr a) (by decide) (fun _ => by kernel_rfl) (fun _ => by kernel_rfl) enter20 #[.agg c0] (fun _ => by kernel_rfl) (fun w' h' => KA w' (VV.out.below h'.old VV.out.big))) ?_
    refine AllGhost.cons (ghost_load 0 rfl (by decide) (fun _ => by kernel_rfl) (fun _ => by kernel_rfl) (fun _ => by kernel_rfl) Tryd.underlying40 rfl (by first | (show _ = some c0.size; rw [hz0]; exact info40) | (show _ = some c1.size; rw [hz1]; exact info40))) ?_
    refine AllGhost.cons (ghost_call (v := arr b) (by decide) (fun _ => by kernel_rfl) (fun _ => by kernel_rfl) enter20 #[.agg c1] (fun _ => by kernel_rfl) (fun w' h' => KB w' (VV.out.below h'.old VV.out.big))) ?_
    refine AllGhost.cons (ghost_make 0 (by decide) rfl (fun _ => by kernel_rfl) (fun _ _ => by kernel_rfl) (fun _ _ => run_alloc26)) ?_
    refine AllGhost.cons (ghost_make 1 (by decide) rfl (fun _ => by kernel_rfl) (fun _ _ => by kernel_rfl) (fun _ _ => run_alloc26)) ?_
    refine AllGhost.cons (ghost_fill 0 (by decide) rfl (fun _ => by kernel_rfl) (fun _ => by kernel_rfl) (fun _ => by kernel_rfl) (fun _ => by kernel_rfl) info26 (one_el _) (by kernel_rfl)) ?_
    refine AllGhost.cons (ghost_fill 1 (by decide) rfl (fun _ => by kernel_rfl) (fun _ => by kernel_rfl) (fun _ => by kernel_rfl) (fun _ => by kernel_rfl) info26 (one_el _) (by kernel_rfl)) ?_
    exact AllGhost.nil
  intro g w8 g9
  have h10 : HA w [(g 5, 26, el b), (g 4, 26, el a), (q4, 40, c1), (q1, 40, c0)] w8 := g9.two
  clear g9 eB7
  generalize g 4 = q11 at h10 ⊢
  generalize g 5 = q12 at h10 ⊢
  clear g
  refine then_at (F := ⟨(.agg c0 :: .agg c1 :: pt q1 :: pt q4 :: .bool false :: pt q11 :: pt q12 :: un :: un :: .agg c0 :: arr a :: .agg c1 :: arr b :: List.replicate 61 un).toArray, []⟩) (by kernel_rfl) ?_
  refine wp_seq ?_
  -- region 2
  obtain ⟨B13, eB13⟩ : ∃ B, B = w8.heap.size := ⟨_, rfl⟩
  refine wp_region_ghost (fun g : Nat → Nat => (⟨(.agg c0 :: .agg c1 :: pt q1 :: pt q4 :: .bool false :: pt q11 :: pt q12 :: pt (g 4) :: pt (g 5) :: .agg c0 :: arr a :: .agg c1 :: arr b :: .agg c0 :: rarr a :: .agg c1 :: rarr b :: List.replicate 57 un).toArray, []⟩ : Act)) (GS w [(q12, 26, el b), (q11, 26, el a), (q4, 40, c1), (q1, 40, c0)] B13 2 4 6 30 (rl 0) (fun j => rl ([a, b].getD j a))) [.agg c0, rarr a, .agg c1, rarr b, .pointer (some ⟨0, 0, none⟩), .pointer (some ⟨0, 0, none⟩), undef, undef] (by kernel_rfl) (by kernel_rfl) (by kernel_rfl) (by kernel_rfl) (fun _ _ _ _ h => h) (fun d hd => GS.start h10.drew eB13 (by decide) (fun _ _ => rfl) (fun j hj => hd j (Nat.lt_of_lt_of_le hj (by decide)))) ?_ ?_
  · refine AllGhost.cons (ghost_load 3 rfl (by decide) (fun _ => by kernel_rfl) (fun _ => by kernel_rfl) (fun _ => by kernel_rfl) Tryd.underlying40 rfl (by first | (show _ = some c0.size; rw [hz0]; exact info40) | (show _ = some c1.size; rw [hz1]; exact info40))) ?_
    refine AllGhost.cons (ghost_call (v := rarr a) (by decide) (fun _ => by kernel_rfl) (fun _ => by kernel_rfl) enter21 #[.agg c0] (fun _ => by kernel_rfl) (fun w' h' => RA w')) ?_
    refine AllGhost.cons (ghost_load 2 rfl (by decide) (fun _ => by kernel_rfl) (fun _ => by kernel_rfl) (fun _ => by kernel_rfl) Tryd.underlying40 rfl (by first | (show _ = some c0.size; rw [hz0]; exact info40) | (show _ = some c1.size; rw [hz1]; exact info40))) ?_
    refine AllGhost.cons (ghost_call (v := rarr b) (by decide) (fun _ => by kernel_rfl) (fun _ => by kernel_rfl) enter21 #[.agg c1] (fun _ => by kernel_rfl) (fun w' h' => RB w')) ?_
    refine AllGhost.cons (ghost_make 0 (by decide) rfl (fun _ => by kernel_rfl) (fun _ _ => by kernel_rfl) (fun _ _ => run_alloc30)) ?_
    refine AllGhost.cons (ghost_make 1 (by decide) rfl (fun _ => by kernel_rfl) (fun _ _ => by kernel_rfl) (fun _ _ => run_alloc30)) ?_
    refine AllGhost.cons (ghost_fill 0 (by decide) rfl (fun _ => by kernel_rfl) (fun _ => by kernel_rfl) (fun _ => by kernel_rfl) (fun _ => by kernel_rfl) (info_rl _) (one_rl _) (by kernel_rfl)) ?_
    refine AllGhost.cons (ghost_fill 1 (by decide) rfl (fun _ => by kernel_rfl) (fun _ => by kernel_rfl) (fun _ => by kernel_rfl) (fun _ => by kernel_rfl) (info_rl _) (one_rl _) (by kernel_rfl)) ?_
    exact AllGhost.nil
  intro g w14 g15
  have h16 : HA w [(g 5, 30, rl b), (g 4, 30, rl a), (q12, 26, el b), (q11, 26, el a), (q4, 40, c1), (q1, 40, c0)] w14 := g15.two
  clear g15 eB13
  generalize g 4 = q17 at h16 ⊢
  generalize g 5 = q18 at h16 ⊢
  clear g
  refine then_at (F := ⟨(.agg c0 :: .agg c1 :: pt q1 :: pt q4 :: .bool false :: pt q11 :: pt q12 :: pt q17 :: pt q18 :: .agg c0 :: arr a :: .agg c1 :: arr b :: .agg c0 :: rarr a :: .agg c1 :: rarr b :: List.replicate 57 un).toArray, []⟩) (by kernel_rfl) ?_
  refine wp_seq ?_
  -- region 3
  refine wp_region_sure ⟨(.agg c0 :: .agg c1 :: pt q1 :: pt q4 :: .bool true :: pt q11 :: pt q12 :: pt q17 :: pt q18 :: .agg c0 :: arr a :: .agg c1 :: arr b :: .agg c0 :: rarr a :: .agg c1 :: rarr b :: arr a :: arr b :: arr (addP a b) :: .string (bytesOf (addP a b)) :: rarr a :: rarr b :: rarr (addP a b) :: .string (bytesOf (addP a b)) :: .bool true :: .bool true :: arr a :: arr b :: arr (subP a b) :: .string (bytesOf (subP a b)) :: rarr a :: rarr b :: rarr (subP a b) :: .string (bytesOf (subP a b)) :: .bool true :: .bool true :: .bool true :: arr a :: arr b :: arr (mulP a b) :: .string (bytesOf (mulP a b)) :: rarr a :: rarr b :: rarr (mulP a b) :: .string (bytesOf (mulP a b)) :: .bool true :: .bool true :: .bool true :: arr a :: arr (negP a) :: .string (bytesOf (negP a)) :: rarr a :: rarr (negP a) :: .string (bytesOf (negP a)) :: .bool true :: .bool true :: .bool true :: arr a :: arr b :: .bool true :: rarr a :: rarr b :: .bool true :: .bool true :: .bool true :: .bool true :: arr a :: arr a :: .bool true :: .bool true :: .bool true :: .bool true :: .bool true :: List.replicate 0 un).toArray, []⟩ (HA w [(q18, 30, rl b), (q17, 30, rl a), (q12, 26, el b), (q11, 26, el a), (q4, 40, c1), (q1, 40, c0)]) [arr a, arr b, arr (addP a b), .string (bytesOf (addP a b)), rarr a, rarr b, rarr (addP a b), .string (bytesOf (addP a b)), .bool true, .bool true, arr a, arr b, arr (subP a b), .string (bytesOf (subP a b)), rarr a, rarr b, rarr (subP a b), .string (bytesOf (subP a b)), .bool true, .bool true, .bool true, arr a, arr b, arr (mulP a b), .string (bytesOf (mulP a b)), rarr a, rarr b, rarr (mulP a b), .string (bytesOf (mulP a b)), .bool true, .bool true, .bool true, arr a, arr (negP a), .string (bytesOf (negP a)), rarr a, rarr (negP a), .string (bytesOf (negP a)), .bool true, .bool true, .bool true, arr a, arr b, .bool true, rarr a, rarr b, .bool true, .bool true, .bool true, .bool true, arr a, arr a, .bool true, .bool true, .bool true, .bool true, .bool true, .bool true] (by kernel_rfl) (by kernel_rfl) (by kernel_rfl) (by kernel_rfl) (fun _ _ _ h => h) h16.drew ?_ ?_
  · refine AllSure.cons (OpSure.take (v := arr a) (by kernel_rfl) (by kernel_rfl) (fun _ h => run_load_blk (by kernel_rfl) (h.get 3 rfl) Tryd.underlying26 rfl info26)) ?_
    refine AllSure.cons (OpSure.take (v := arr b) (by kernel_rfl) (by kernel_rfl) (fun _ h => run_load_blk (by kernel_rfl) (h.get 2 rfl) Tryd.underlying26 rfl info26)) ?_
    refine AllSure.cons (sure_call (v := arr (addP a b)) (by kernel_rfl) (by kernel_rfl) enter22 HA.keep #[arr a, arr b] (by kernel_rfl) (fun w' h' => Add_any a b ha hb w' (VV.out.below h'.old VV.out.big))) ?_
    refine AllSure.cons (sure_call (v := .string (bytesOf (addP a b))) (by kernel_rfl) (by kernel_rfl) enter13 HA.keep #[arr (addP a b)] (by kernel_rfl) (fun w' h' => Bytes_any (addP a b) w')) ?_
    refine AllSure.cons (OpSure.take (v := rarr a) (by kernel_rfl) (by kernel_rfl) (fun _ h => run_load_blk (by kernel_rfl) (h.get 1 rfl) Tryd.underlying30 rfl (info_rl _))) ?_
    refine AllSure.cons (OpSure.take (v := rarr b) (by kernel_rfl) (by kernel_rfl) (fun _ h => run_load_blk (by kernel_rfl) (h.get 0 rfl) Tryd.underlying30 rfl (info_rl _))) ?_
    refine AllSure.cons (sure_call (v := rarr (addP a b)) (by kernel_rfl) (by kernel_rfl) enter23 HA.keep #[rarr a, rarr b] (by kernel_rfl) (fun w' h' => radd_any a b (Nat.lt_trans ha (by decide)) (Nat.lt_trans hb (by decide)) w')) ?_
    refine AllSure.cons (sure_call (v := .string (bytesOf (addP a b))) (by kernel_rfl) (by kernel_rfl) enter14 HA.keep #[rarr (addP a b)] (by kernel_rfl) (fun w' h' => rbytes_any (addP a b) w')) ?_
    refine AllSure.cons (OpSure.take (v := .bool true) (by kernel_rfl) (by kernel_rfl) (fun _ _ => (run_eqs (s := bytesOf (addP a b)) (t := bytesOf (addP a b)) (by kernel_rfl) (by kernel_rfl) true (decide_eq_true rfl)))) ?_
    refine AllSure.cons (OpSure.take (v := .bool true) (by kernel_rfl) (by kernel_rfl) (fun _ _ => (by kernel_rfl))) ?_
    refine AllSure.cons (OpSure.take (v := arr a) (by kernel_rfl) (by kernel_rfl) (fun _ h => run_load_blk (by kernel_rfl) (h.get 3 rfl) Tryd.underlying26 rfl info26)) ?_
    refine AllSure.cons (OpSure.take (v := arr b) (by kernel_rfl) (by kernel_rfl) (fun _ h => run_load_blk (by kernel_rfl) (h.get 2 rfl) Tryd.underlying26 rfl info26)) ?_
    refine AllSure.cons (sure_call (v := arr (subP a b)) (by kernel_rfl) (by kernel_rfl) enter24 HA.keep #[arr a, arr b] (by kernel_rfl) (fun w' h' => Sub_any a b ha hb w' (VV.out.below h'.old VV.out.big))) ?_
    refine AllSure.cons (sure_call (v := .string (bytesOf (subP a b))) (by kernel_rfl) (by kernel_rfl) enter13 HA.keep #[arr (subP a b)] (by kernel_rfl) (fun w' h' => Bytes_any (subP a b) w')) ?_
    refine AllSure.cons (OpSure.take (v := rarr a) (by kernel_rfl) (by kernel_rfl) (fun _ h => run_load_blk (by kernel_rfl) (h.get 1 rfl) Tryd.underlying30 rfl (info_rl _))) ?_
    refine AllSure.cons (OpSure.take (v := rarr b) (by kernel_rfl) (by kernel_rfl) (fun _ h => run_load_blk (by kernel_rfl) (h.get 0 rfl) Tryd.underlying30 rfl (info_rl _))) ?_
    refine AllSure.cons (sure_call (v := rarr (subP a b)) (by kernel_rfl) (by kernel_rfl) enter25 HA.keep #[rarr a, rarr b] (by kernel_rfl) (fun w' h' => rsub_any a b ha hb w')) ?_
    refine AllSure.cons (sure_call (v := .string (bytesOf (subP a b))) (by kernel_rfl) (by kernel_rfl) enter14 HA.keep #[rarr (subP a b)] (by kernel_rfl) (fun w' h' => rbytes_any (subP a b) w')) ?_
    refine AllSure.cons (OpSure.take (v := .bool true) (by kernel_rfl) (by kernel_rfl) (fun _ _ => (run_eqs (s := bytesOf (subP a b)) (t := bytesOf (subP a b)) (by kernel_rfl) (by kernel_rfl) true (decide_eq_true rfl)))) ?_
    refine AllSure.cons (OpSure.take (v := .bool true) (by kernel_rfl) (by kernel_rfl) (fun _ _ => (by kernel_rfl))) ?_
    refine AllSure.cons (OpSure.take (v := .bool true) (by kernel_rfl) (by kernel_rfl) (fun _ _ => (by kernel_rfl))) ?_
    refine AllSure.cons (OpSure.take (v := arr a) (by kernel_rfl) (by kernel_rfl) (fun _ h => run_load_blk (by kernel_rfl) (h.get 3 rfl) Tryd.underlying26 rfl info26)) ?_
    refine AllSure.cons (OpSure.take (v := arr b) (by kernel_rfl) (by kernel_rfl) (fun _ h => run_load_blk (by kernel_rfl) (h.get 2 rfl) Tryd.underlying26 rfl info26)) ?_
    refine AllSure.cons (sure_call (v := arr (mulP a b)) (by kernel_rfl) (by kernel_rfl) enter26 HA.keep #[arr a, arr b] (by kernel_rfl) (fun w' h' => Mul_any a b ha hb w' (VV.out.below h'.old VV.out.big))) ?_
    refine AllSure.cons (sure_call (v := .string (bytesOf (mulP a b))) (by kernel_rfl) (by kernel_rfl) enter13 HA.keep #[arr (mulP a b)] (by kernel_rfl) (fun w' h' => Bytes_any (mulP a b) w')) ?_
    refine AllSure.cons (OpSure.take (v := rarr a) (by kernel_rfl) (by kernel_rfl) (fun _ h => run_load_blk (by kernel_rfl) (h.get 1 rfl) Tryd.underlying30 rfl (info_rl _))) ?_
    refine AllSure.cons (OpSure.take (v := rarr b) (by kernel_rfl) (by kernel_rfl) (fun _ h => run_load_blk (by kernel_rfl) (h.get 0 rfl) Tryd.underlying30 rfl (info_rl _))) ?_
    refine AllSure.cons (sure_call (v := rarr (mulP a b)) (by kernel_rfl) (by kernel_rfl) enter27 HA.keep #[rarr a, rarr b] (by kernel_rfl) (fun w' h' => rmul_any a b (Nat.lt_trans ha (by decide)) (Nat.lt_trans hb (by decide)) w')) ?_
    refine AllSure.cons (sure_call (v := .string (bytesOf (mulP a b))) (by kernel_rfl) (by kernel_rfl) enter14 HA.keep #[rarr (mulP a b)] (by kernel_rfl) (fun w' h' => rbytes_any (mulP a b) w')) ?_
    refine AllSure.cons (OpSure.take (v := .bool true) (by kernel_rfl) (by kernel_rfl) (fun _ _ => (run_eqs (s := bytesOf (mulP a b)) (t := bytesOf (mulP a b)) (by kernel_rfl) (by kernel_rfl) true (decide_eq_true rfl)))) ?_
    refine AllSure.cons (OpSure.take (v := .bool true) (by kernel_rfl) (by kernel_rfl) (fun _ _ => (by kernel_rfl))) ?_
    refine AllSure.cons (OpSure.take (v := .bool true) (by kernel_rfl) (by kernel_rfl) (fun _ _ => (by kernel_rfl))) ?_
    refine AllSure.cons (OpSure.take (v := arr a) (by kernel_rfl) (by kernel_rfl) (fun _ h => run_load_blk (by kernel_rfl) (h.get 3 rfl) Tryd.underlying26 rfl info26)) ?_
    refine AllSure.cons (sure_call (v := arr (negP a)) (by kernel_rfl) (by kernel_rfl) enter28 HA.keep #[arr a] (by kernel_rfl) (fun w' h' => Neg_any a ha w' (VV.out.below h'.old VV.out.big))) ?_
    refine AllSure.cons (sure_call (v := .string (bytesOf (negP a))) (by kernel_rfl) (by kernel_rfl) enter13 HA.keep #[arr (negP a)] (by kernel_rfl) (fun w' h' => Bytes_any (negP a) w')) ?_
    refine AllSure.cons (OpSure.take (v := rarr a) (by kernel_rfl) (by kernel_rfl) (fun _ h => run_load_blk (by kernel_rfl) (h.get 1 rfl) Tryd.underlying30 rfl (info_rl _))) ?_
    refine AllSure.cons (sure_call (v := rarr (negP a)) (by kernel_rfl) (by kernel_rfl) enter29 HA.keep #[rarr a] (by kernel_rfl) (fun w' h' => rneg_any a ha w')) ?_
    refine AllSure.cons (sure_call (v := .string (bytesOf (negP a))) (by kernel_rfl) (by kernel_rfl) enter14 HA.keep #[rarr (negP a)] (by kernel_rfl) (fun w' h' => rbytes_any (negP a) w')) ?_
    refine AllSure.cons (OpSure.take (v := .bool true) (by kernel_rfl) (by kernel_rfl) (fun _ _ => (run_eqs (s := bytesOf (negP a)) (t := bytesOf (negP a)) (by kernel_rfl) (by kernel_rfl) true (decide_eq_true rfl)))) ?_
    refine AllSure.cons (OpSure.take (v := .bool true) (by kernel_rfl) (by kernel_rfl) (fun _ _ => (by kernel_rfl))) ?_
    refine AllSure.cons (OpSure.take (v := .bool true) (by kernel_rfl) (by kernel_rfl) (fun _ _ => (by kernel_rfl))) ?_
    refine AllSure.cons (OpSure.take (v := arr a) (by kernel_rfl) (by kernel_rfl) (fun _ h => run_load_blk (by kernel_rfl) (h.get 3 rfl) Tryd.underlying26 rfl info26)) ?_
    refine AllSure.cons (OpSure.take (v := arr b) (by kernel_rfl) (by kernel_rfl) (fun _ h => run_load_blk (by kernel_rfl) (h.get 2 rfl) Tryd.underlying26 rfl info26)) ?_
    refine AllSure.cons (sure_call (v := .bool true) (by kernel_rfl) (by kernel_rfl) enter30 HA.keep #[arr a, arr b] (by kernel_rfl) (fun w' h' => Same_yes a b ha hb hab w')) ?_
    refine AllSure.cons (OpSure.take (v := rarr a) (by kernel_rfl) (by kernel_rfl) (fun _ h => run_load_blk (by kernel_rfl) (h.get 1 rfl) Tryd.underlying30 rfl (info_rl _))) ?_
    refine AllSure.cons (OpSure.take (v := rarr b) (by kernel_rfl) (by kernel_rfl) (fun _ h => run_load_blk (by kernel_rfl) (h.get 0 rfl) Tryd.underlying30 rfl (info_rl _))) ?_
    refine AllSure.cons (OpSure.take (v := .bool true) (by kernel_rfl) (by kernel_rfl) (fun _ _ => (run_eq30 a b (Nat.lt_trans ha (by decide)) (Nat.lt_trans hb (by decide)) (by kernel_rfl) (by kernel_rfl) true (decide_eq_true hab)))) ?_
    refine AllSure.cons (OpSure.take (v := .bool true) (by kernel_rfl) (by kernel_rfl) (fun _ _ => (run_eqb true true (by kernel_rfl) (by kernel_rfl)))) ?_
    refine AllSure.cons (OpSure.take (v := .bool true) (by kernel_rfl) (by kernel_rfl) (fun _ _ => (by kernel_rfl))) ?_
    refine AllSure.cons (OpSure.take (v := .bool true) (by kernel_rfl) (by kernel_rfl) (fun _ _ => (by kernel_rfl))) ?_
    refine AllSure.cons (OpSure.take (v := arr a) (by kernel_rfl) (by kernel_rfl) (fun _ h => run_load_blk (by kernel_rfl) (h.get 3 rfl) Tryd.underlying26 rfl info26)) ?_
    refine AllSure.cons (OpSure.take (v := arr a) (by kernel_rfl) (by kernel_rfl) (fun _ h => run_load_blk (by kernel_rfl) (h.get 3 rfl) Tryd.underlying26 rfl info26)) ?_
    refine AllSure.cons (sure_call (v := .bool true) (by kernel_rfl) (by kernel_rfl) enter30 HA.keep #[arr a, arr a] (by kernel_rfl) (fun w' h' => Same_yes a a ha ha rfl w')) ?_
    refine AllSure.cons (OpSure.take (v := .bool true) (by kernel_rfl) (by kernel_rfl) (fun _ _ => (by kernel_rfl))) ?_
    refine AllSure.cons (OpSure.take (v := .bool true) (by kernel_rfl) (by kernel_rfl) (fun _ _ => (by kernel_rfl))) ?_
    refine AllSure.cons (sure_call (v := .bool true) (by kernel_rfl) (by kernel_rfl) enter19 HA.keep #[] (by kernel_rfl) (fun w' h' => works_any w' (VV.out.below h'.old VV.out.big))) ?_
    refine AllSure.cons (OpSure.take (v := .bool true) (by kernel_rfl) (by kernel_rfl) (fun _ _ => (by kernel_rfl))) ?_
    refine AllSure.cons (OpSure.take (v := .bool true) (by kernel_rfl) (by kernel_rfl) (fun _ _ => (by kernel_rfl))) ?_
    exact AllSure.nil
  intro w19 h20
  refine then_at (F := ⟨(.agg c0 :: .agg c1 :: pt q1 :: pt q4 :: .bool true :: pt q11 :: pt q12 :: pt q17 :: pt q18 :: .agg c0 :: arr a :: .agg c1 :: arr b :: .agg c0 :: rarr a :: .agg c1 :: rarr b :: arr a :: arr b :: arr (addP a b) :: .string (bytesOf (addP a b)) :: rarr a :: rarr b :: rarr (addP a b) :: .string (bytesOf (addP a b)) :: .bool true :: .bool true :: arr a :: arr b :: arr (subP a b) :: .string (bytesOf (subP a b)) :: rarr a :: rarr b :: rarr (subP a b) :: .string (bytesOf (subP a b)) :: .bool true :: .bool true :: .bool true :: arr a :: arr b :: arr (mulP a b) :: .string (bytesOf (mulP a b)) :: rarr a :: rarr b :: rarr (mulP a b) :: .string (bytesOf (mulP a b)) :: .bool true :: .bool true :: .bool true :: arr a :: arr (negP a) :: .string (bytesOf (negP a)) :: rarr a :: rarr (negP a) :: .string (bytesOf (negP a)) :: .bool true :: .bool true :: .bool true :: arr a :: arr b :: .bool true :: rarr a :: rarr b :: .bool true :: .bool true :: .bool true :: .bool true :: arr a :: arr a :: .bool true :: .bool true :: .bool true :: .bool true :: .bool true :: List.replicate 0 un).toArray, []⟩) (by kernel_rfl) ?_
  refine wp_ret ?_
  repeat first | refine then_ret ?_ | refine block_ret ?_
  exact bodyPost_ret (v := .bool true) (by kernel_rfl) rfl ⟨rfl, h20.old⟩
set_option linter.unusedVariables false in
set_option maxRecDepth 100000 in
set_option maxHeartbeats 4000000 in
theorem sums_ne (c0 c1 : Array Value) (a b : Nat) (hz0 : c0.size = 32) (hz1 : c1.size = 32) (ha : a < P) (hb : b < P) (hab : a ≠ b)
    (KA : ∀ w, Vars w → Calls Tryd.prog 20 #[.agg c0] w fun e w' => e = .returned (arr a) ∧ Below w.heap.size w w')
    (KB : ∀ w, Vars w → Calls Tryd.prog 20 #[.agg c1] w fun e w' => e = .returned (arr b) ∧ Below w.heap.size w w')
    (RA : ∀ w, Calls Tryd.prog 21 #[.agg c0] w fun e w' => e = .returned (rarr a) ∧ Below w.heap.size w w')
    (RB : ∀ w, Calls Tryd.prog 21 #[.agg c1] w fun e w' => e = .returned (rarr b) ∧ Below w.heap.size w w') (w : World) (V : Vars w) :
    Calls Tryd.prog 4 #[.agg c0, .agg c1] w fun e w' => e = .returned (.bool true) ∧ Below w.heap.size w w' := by
  have VV := hide V
  have H0 := HA.start w
  clear V
  go_enter Tryd.func4, Tryd.ntmps4
  refine wp_seq ?_
  -- region 0
  refine wl_region ?_
  refine wl_make H0 40 (by kernel_rfl) (run_box40 (c := c0) (by kernel_rfl)) ?_
  intro q1 w2 h3
  refine wl_make h3 40 (by kernel_rfl) (run_box40 (c := c1) (by kernel_rfl)) ?_
  intro q4 w5 h6
  refine wl_val (.bool false) (by kernel_rfl) (by kernel_rfl) ?_
  refine wl_nil ?_
  refine then_at (F := ⟨(.agg c0 :: .agg c1 :: pt q1 :: pt q4 :: .bool false :: List.replicate 69 un).toArray, []⟩) (by kernel_rfl) ?_
  refine wp_seq ?_
  -- region 1
  obtain ⟨B7, eB7⟩ : ∃ B, B = w5.heap.size := ⟨_, rfl⟩
  refine wp_region_ghost (fun g : Nat → Nat => (⟨(.agg c0 :: .agg c1 :: pt q1 :: pt q4 :: .bool false :: pt (g 4) :: pt (g 5) :: un :: un :: .agg c0 :: arr a :: .agg c1 :: arr b :: List.replicate 61 un).toArray, []⟩ : Act)) (GS w [(q4, 40, c1), (q1, 40, c0)] B7 2 4 6 26 (el 0) (fun j => el ([a, b].getD j a))) [.agg c0, arr a, .agg c1, arr b, .pointer (some ⟨0, 0, none⟩), .pointer (some ⟨0, 0, none⟩), undef, undef] (by kernel_rfl) (by kernel_rfl) (by kernel_rfl) (by kernel_rfl) (fun _ _ _ _ h => h) (fun d hd => GS.start h6.drew eB7 (by decide) (fun _ _ => rfl) (fun j hj => hd j (Nat.lt_of_lt_of_le hj (by decide)))) ?_ ?_
  · refine AllGhost.cons (ghost_load 1 rfl (by decide) (fun _ => by kernel_rfl) (fun _ => by kernel_rfl) (fun _ => by kernel_rfl) Tryd.underlying40 rfl (by first | (show _ = some c0.size; rw [hz0]; exact info40) | (show _ = some c1.size; rw [hz1]; exact info40))) ?_
    refine AllGhost.cons (ghost_call (v := arr a) (by decide) (fun _ => by kernel_rfl) (fun _ => by kernel_rfl) enter20 #[.agg c0] (fun _ => by kernel_rfl) (fun w' h' => KA w' (VV.out.below h'.old VV.out.big))) ?_
    refine AllGhost.cons (ghost_load 0 rfl (by decide) (fun _ => by kernel_rfl) (fun _ => by kernel_rfl) (fun _ => by kernel_rfl) Tryd.underlying40 rfl (by first | (show _ = some c0.size; rw [hz0]; exact info40) | (show _ = some c1.size; rw [hz1]; exact info40))) ?_
    refine AllGhost.cons (ghost_call (v := arr b) (by decide) (fun _ => by kernel_rfl) (fun _ => by kernel_rfl) enter20 #[.agg c1] (fun _ => by kernel_rfl) (fun w' h' => KB w' (VV.out.below h'.old VV.out.big))) ?_
    refine AllGhost.cons (ghost_make 0 (by decide) rfl (fun _ => by kernel_rfl) (fun _ _ => by kernel_rfl) (fun _ _ => run_alloc26)) ?_
    refine AllGhost.cons (ghost_make 1 (by decide) rfl (fun _ => by kernel_rfl) (fun _ _ => by kernel_rfl) (fun _ _ => run_alloc26)) ?_
    refine AllGhost.cons (ghost_fill 0 (by decide) rfl (fun _ => by kernel_rfl) (fun _ => by kernel_rfl) (fun _ => by kernel_rfl) (fun _ => by kernel_rfl) info26 (one_el _) (by kernel_rfl)) ?_
    refine AllGhost.cons (ghost_fill 1 (by decide) rfl (fun _ => by kernel_rfl) (fun _ => by kernel_rfl) (fun _ => by kernel_rfl) (fun _ => by kernel_rfl) info26 (one_el _) (by kernel_rfl)) ?_
    exact AllGhost.nil
  intro g w8 g9
  have h10 : HA w [(g 5, 26, el b), (g 4, 26, el a), (q4, 40, c1), (q1, 40, c0)] w8 := g9.two
  clear g9 eB7
  generalize g 4 = q11 at h10 ⊢
  generalize g 5 = q12 at h10 ⊢
  clear g
  refine then_at (F := ⟨(.agg c0 :: .agg c1 :: pt q1 :: pt q4 :: .bool false :: pt q11 :: pt q12 :: un :: un :: .agg c0 :: arr a :: .agg c1 :: arr b :: List.replicate 61 un).toArray, []⟩) (by kernel_rfl) ?_
  refine wp_seq ?_
  -- region 2
  obtain ⟨B13, eB13⟩ : ∃ B, B = w8.heap.size := ⟨_, rfl⟩
  refine wp_region_ghost (fun g : Nat → Nat => (⟨(.agg c0 :: .agg c1 :: pt q1 :: pt q4 :: .bool false :: pt q11 :: pt q12 :: pt (g 4) :: pt (g 5) :: .agg c0 :: arr a :: .agg c1 :: arr b :: .agg c0 :: rarr a :: .agg c1 :: rarr b :: List.replicate 57 un).toArray, []⟩ : Act)) (GS w [(q12, 26, el b), (q11, 26, el a), (q4, 40, c1), (q1, 40, c0)] B13 2 4 6 30 (rl 0) (fun j => rl ([a, b].getD j a))) [.agg c0, rarr a, .agg c1, rarr b, .pointer (some ⟨0, 0, none⟩), .pointer (some ⟨0, 0, none⟩), undef, undef] (by kernel_rfl) (by kernel_rfl) (by kernel_rfl) (by kernel_rfl) (fun _ _ _ _ h => h) (fun d hd => GS.start h10.drew eB13 (by decide) (fun _ _ => rfl) (fun j hj => hd j (Nat.lt_of_lt_of_le hj (by decide)))) ?_ ?_
  · refine AllGhost.cons (ghost_load 3 rfl (by decide) (fun _ => by kernel_rfl) (fun _ => by kernel_rfl) (fun _ => by kernel_rfl) Tryd.underlying40 rfl (by first | (show _ = some c0.size; rw [hz0]; exact info40) | (show _ = some c1.size; rw [hz1]; exact info40))) ?_
    refine AllGhost.cons (ghost_call (v := rarr a) (by decide) (fun _ => by kernel_rfl) (fun _ => by kernel_rfl) enter21 #[.agg c0] (fun _ => by kernel_rfl) (fun w' h' => RA w')) ?_
    refine AllGhost.cons (ghost_load 2 rfl (by decide) (fun _ => by kernel_rfl) (fun _ => by kernel_rfl) (fun _ => by kernel_rfl) Tryd.underlying40 rfl (by first | (show _ = some c0.size; rw [hz0]; exact info40) | (show _ = some c1.size; rw [hz1]; exact info40))) ?_
    refine AllGhost.cons (ghost_call (v := rarr b) (by decide) (fun _ => by kernel_rfl) (fun _ => by kernel_rfl) enter21 #[.agg c1] (fun _ => by kernel_rfl) (fun w' h' => RB w')) ?_
    refine AllGhost.cons (ghost_make 0 (by decide) rfl (fun _ => by kernel_rfl) (fun _ _ => by kernel_rfl) (fun _ _ => run_alloc30)) ?_
    refine AllGhost.cons (ghost_make 1 (by decide) rfl (fun _ => by kernel_rfl) (fun _ _ => by kernel_rfl) (fun _ _ => run_alloc30)) ?_
    refine AllGhost.cons (ghost_fill 0 (by decide) rfl (fun _ => by kernel_rfl) (fun _ => by kernel_rfl) (fun _ => by kernel_rfl) (fun _ => by kernel_rfl) (info_rl _) (one_rl _) (by kernel_rfl)) ?_
    refine AllGhost.cons (ghost_fill 1 (by decide) rfl (fun _ => by kernel_rfl) (fun _ => by kernel_rfl) (fun _ => by kernel_rfl) (fun _ => by kernel_rfl) (info_rl _) (one_rl _) (by kernel_rfl)) ?_
    exact AllGhost.nil
  intro g w14 g15
  have h16 : HA w [(g 5, 30, rl b), (g 4, 30, rl a), (q12, 26, el b), (q11, 26, el a), (q4, 40, c1), (q1, 40, c0)] w14 := g15.two
  clear g15 eB13
  generalize g 4 = q17 at h16 ⊢
  generalize g 5 = q18 at h16 ⊢
  clear g
  refine then_at (F := ⟨(.agg c0 :: .agg c1 :: pt q1 :: pt q4 :: .bool false :: pt q11 :: pt q12 :: pt q17 :: pt q18 :: .agg c0 :: arr a :: .agg c1 :: arr b :: .agg c0 :: rarr a :: .agg c1 :: rarr b :: List.replicate 57 un).toArray, []⟩) (by kernel_rfl) ?_
  refine wp_seq ?_
  -- region 3
  refine wp_region_sure ⟨(.agg c0 :: .agg c1 :: pt q1 :: pt q4 :: .bool true :: pt q11 :: pt q12 :: pt q17 :: pt q18 :: .agg c0 :: arr a :: .agg c1 :: arr b :: .agg c0 :: rarr a :: .agg c1 :: rarr b :: arr a :: arr b :: arr (addP a b) :: .string (bytesOf (addP a b)) :: rarr a :: rarr b :: rarr (addP a b) :: .string (bytesOf (addP a b)) :: .bool true :: .bool true :: arr a :: arr b :: arr (subP a b) :: .string (bytesOf (subP a b)) :: rarr a :: rarr b :: rarr (subP a b) :: .string (bytesOf (subP a b)) :: .bool true :: .bool true :: .bool true :: arr a :: arr b :: arr (mulP a b) :: .string (bytesOf (mulP a b)) :: rarr a :: rarr b :: rarr (mulP a b) :: .string (bytesOf (mulP a b)) :: .bool true :: .bool true :: .bool true :: arr a :: arr (negP a) :: .string (bytesOf (negP a)) :: rarr a :: rarr (negP a) :: .string (bytesOf (negP a)) :: .bool true :: .bool true :: .bool true :: arr a :: arr b :: .bool false :: rarr a :: rarr b :: .bool false :: .bool true :: .bool true :: .bool true :: arr a :: arr a :: .bool true :: .bool true :: .bool true :: .bool true :: .bool true :: List.replicate 0 un).toArray, []⟩ (HA w [(q18, 30, rl b), (q17, 30, rl a), (q12, 26, el b), (q11, 26, el a), (q4, 40, c1), (q1, 40, c0)]) [arr a, arr b, arr (addP a b), .string (bytesOf (addP a b)), rarr a, rarr b, rarr (addP a b), .string (bytesOf (addP a b)), .bool true, .bool true, arr a, arr b, arr (subP a b), .string (bytesOf (subP a b)), rarr a, rarr b, rarr (subP a b), .string (bytesOf (subP a b)), .bool true, .bool true, .bool true, arr a, arr b, arr (mulP a b), .string (bytesOf (mulP a b)), rarr a, rarr b, rarr (mulP a b), .string (bytesOf (mulP a b)), .bool true, .bool true, .bool true, arr a, arr (negP a), .string (bytesOf (negP a)), rarr a, rarr (negP a), .string (bytesOf (negP a)), .bool true, .bool true, .bool true, arr a, arr b, .bool false, rarr a, rarr b, .bool false, .bool true, .bool true, .bool true, arr a, arr a, .bool true, .bool true, .bool true, .bool true, .bool true, .bool true] (by kernel_rfl) (by kernel_rfl) (by kernel_rfl) (by kernel_rfl) (fun _ _ _ h => h) h16.drew ?_ ?_
  · refine AllSure.cons (OpSure.take (v := arr a) (by kernel_rfl) (by kernel_rfl) (fun _ h => run_load_blk (by kernel_rfl) (h.get 3 rfl) Tryd.underlying26 rfl info26)) ?_
    refine AllSure.cons (OpSure.take (v := arr b) (by kernel_rfl) (by kernel_rfl) (fun _ h => run_load_blk (by kernel_rfl) (h.get 2 rfl) Tryd.underlying26 rfl info26)) ?_
    refine AllSure.cons (sure_call (v := arr (addP a b)) (by kernel_rfl) (by kernel_rfl) enter22 HA.keep #[arr a, arr b] (by kernel_rfl) (fun w' h' => Add_any a b ha hb w' (VV.out.below h'.old VV.out.big))) ?_
    refine AllSure.cons (sure_call (v := .string (bytesOf (addP a b))) (by kernel_rfl) (by kernel_rfl) enter13 HA.keep #[arr (addP a b)] (by kernel_rfl) (fun w' h' => Bytes_any (addP a b) w')) ?_
    refine AllSure.cons (OpSure.take (v := rarr a) (by kernel_rfl) (by kernel_rfl) (fun _ h => run_load_blk (by kernel_rfl) (h.get 1 rfl) Tryd.underlying30 rfl (info_rl _))) ?_
    refine AllSure.cons (OpSure.take (v := rarr b) (by kernel_rfl) (by kernel_rfl) (fun _ h => run_load_blk (by kernel_rfl) (h.get 0 rfl) Tryd.underlying30 rfl (info_rl _))) ?_
    refine AllSure.cons (sure_call (v := rarr (addP a b)) (by kernel_rfl) (by kernel_rfl) enter23 HA.keep #[rarr a, rarr b] (by kernel_rfl) (fun w' h' => radd_any a b (Nat.lt_trans ha (by decide)) (Nat.lt_trans hb (by decide)) w')) ?_
    refine AllSure.cons (sure_call (v := .string (bytesOf (addP a b))) (by kernel_rfl) (by kernel_rfl) enter14 HA.keep #[rarr (addP a b)] (by kernel_rfl) (fun w' h' => rbytes_any (addP a b) w')) ?_
    refine AllSure.cons (OpSure.take (v := .bool true) (by kernel_rfl) (by kernel_rfl) (fun _ _ => (run_eqs (s := bytesOf (addP a b)) (t := bytesOf (addP a b)) (by kernel_rfl) (by kernel_rfl) true (decide_eq_true rfl)))) ?_
    refine AllSure.cons (OpSure.take (v := .bool true) (by kernel_rfl) (by kernel_rfl) (fun _ _ => (by kernel_rfl))) ?_
    refine AllSure.cons (OpSure.take (v := arr a) (by kernel_rfl) (by kernel_rfl) (fun _ h => run_load_blk (by kernel_rfl) (h.get 3 rfl) Tryd.underlying26 rfl info26)) ?_
    refine AllSure.cons (OpSure.take (v := arr b) (by kernel_rfl) (by kernel_rfl) (fun _ h => run_load_blk (by kernel_rfl) (h.get 2 rfl) Tryd.underlying26 rfl info26)) ?_
    refine AllSure.cons (sure_call (v := arr (subP a b)) (by kernel_rfl) (by kernel_rfl) enter24 HA.keep #[arr a, arr b] (by kernel_rfl) (fun w' h' => Sub_any a b ha hb w' (VV.out.below h'.old VV.out.big))) ?_
    refine AllSure.cons (sure_call (v := .string (bytesOf (subP a b))) (by kernel_rfl) (by kernel_rfl) enter13 HA.keep #[arr (subP a b)] (by kernel_rfl) (fun w' h' => Bytes_any (subP a b) w')) ?_
    refine AllSure.cons (OpSure.take (v := rarr a) (by kernel_rfl) (by kernel_rfl) (fun _ h => run_load_blk (by kernel_rfl) (h.get 1 rfl) Tryd.underlying30 rfl (info_rl _))) ?_
    refine AllSure.cons (OpSure.take (v := rarr b) (by kernel_rfl) (by kernel_rfl) (fun _ h => run_load_blk (by kernel_rfl) (h.get 0 rfl) Tryd.underlying30 rfl (info_rl _))) ?_
    refine AllSure.cons (sure_call (v := rarr (subP a b)) (by kernel_rfl) (by kernel_rfl) enter25 HA.keep #[rarr a, rarr b] (by kernel_rfl) (fun w' h' => rsub_any a b ha hb w')) ?_
    refine AllSure.cons (sure_call (v := .string (bytesOf (subP a b))) (by kernel_rfl) (by kernel_rfl) enter14 HA.keep #[rarr (subP a b)] (by kernel_rfl) (fun w' h' => rbytes_any (subP a b) w')) ?_
    refine AllSure.cons (OpSure.take (v := .bool true) (by kernel_rfl) (by kernel_rfl) (fun _ _ => (run_eqs (s := bytesOf (subP a b)) (t := bytesOf (subP a b)) (by kernel_rfl) (by kernel_rfl) true (decide_eq_true rfl)))) ?_
    refine AllSure.cons (OpSure.take (v := .bool true) (by kernel_rfl) (by kernel_rfl) (fun _ _ => (by kernel_rfl))) ?_
    refine AllSure.cons (OpSure.take (v := .bool true) (by kernel_rfl) (by kernel_rfl) (fun _ _ => (by kernel_rfl))) ?_
    refine AllSure.cons (OpSure.take (v := arr a) (by kernel_rfl) (by kernel_rfl) (fun _ h => run_load_blk (by kernel_rfl) (h.get 3 rfl) Tryd.underlying26 rfl info26)) ?_
    refine AllSure.cons (OpSure.take (v := arr b) (by kernel_rfl) (by kernel_rfl) (fun _ h => run_load_blk (by kernel_rfl) (h.get 2 rfl) Tryd.underlying26 rfl info26)) ?_
    refine AllSure.cons (sure_call (v := arr (mulP a b)) (by kernel_rfl) (by kernel_rfl) enter26 HA.keep #[arr a, arr b] (by kernel_rfl) (fun w' h' => Mul_any a b ha hb w' (VV.out.below h'.old VV.out.big))) ?_
    refine AllSure.cons (sure_call (v := .string (bytesOf (mulP a b))) (by kernel_rfl) (by kernel_rfl) enter13 HA.keep #[arr (mulP a b)] (by kernel_rfl) (fun w' h' => Bytes_any (mulP a b) w')) ?_
    refine AllSure.cons (OpSure.take (v := rarr a) (by kernel_rfl) (by kernel_rfl) (fun _ h => run_load_blk (by kernel_rfl) (h.get 1 rfl) Tryd.underlying30 rfl (info_rl _))) ?_
    refine AllSure.cons (OpSure.take (v := rarr b) (by kernel_rfl) (by kernel_rfl) (fun _ h => run_load_blk (by kernel_rfl) (h.get 0 rfl) Tryd.underlying30 rfl (info_rl _))) ?_
    refine AllSure.cons (sure_call (v := rarr (mulP a b)) (by kernel_rfl) (by kernel_rfl) enter27 HA.keep #[rarr a, rarr b] (by kernel_rfl) (fun w' h' => rmul_any a b (Nat.lt_trans ha (by decide)) (Nat.lt_trans hb (by decide)) w')) ?_
    refine AllSure.cons (sure_call (v := .string (bytesOf (mulP a b))) (by kernel_rfl) (by kernel_rfl) enter14 HA.keep #[rarr (mulP a b)] (by kernel_rfl) (fun w' h' => rbytes_any (mulP a b) w')) ?_
    refine AllSure.cons (OpSure.take (v := .bool true) (by kernel_rfl) (by kernel_rfl) (fun _ _ => (run_eqs (s := bytesOf (mulP a b)) (t := bytesOf (mulP a b)) (by kernel_rfl) (by kernel_rfl) true (decide_eq_true rfl)))) ?_
    refine AllSure.cons (OpSure.take (v := .bool true) (by kernel_rfl) (by kernel_rfl) (fun _ _ => (by kernel_rfl))) ?_
    refine AllSure.cons (OpSure.take (v := .bool true) (by kernel_rfl) (by kernel_rfl) (fun _ _ => (by kernel_rfl))) ?_
    refine AllSure.cons (OpSure.take (v := arr a) (by kernel_rfl) (by kernel_rfl) (fun _ h => run_load_blk (by kernel_rfl) (h.get 3 rfl) Tryd.underlying26 rfl info26)) ?_
    refine AllSure.cons (sure_call (v := arr (negP a)) (by kernel_rfl) (by kernel_rfl) enter28 HA.keep #[arr a] (by kernel_rfl) (fun w' h' => Neg_any a ha w' (VV.out.below h'.old VV.out.big))) ?_
    refine AllSure.cons (sure_call (v := .string (bytesOf (negP a))) (by kernel_rfl) (by kernel_rfl) enter13 HA.keep #[arr (negP a)] (by kernel_rfl) (fun w' h' => Bytes_any (negP a) w')) ?_
    refine AllSure.cons (OpSure.take (v := rarr a) (by kernel_rfl) (by kernel_rfl) (fun _ h => run_load_blk (by kernel_rfl) (h.get 1 rfl) Tryd.underlying30 rfl (info_rl _))) ?_
    refine AllSure.cons (sure_call (v := rarr (negP a)) (by kernel_rfl) (by kernel_rfl) enter29 HA.keep #[rarr a] (by kernel_rfl) (fun w' h' => rneg_any a ha w')) ?_
    refine AllSure.cons (sure_call (v := .string (bytesOf (negP a))) (by kernel_rfl) (by kernel_rfl) enter14 HA.keep #[rarr (negP a)] (by kernel_rfl) (fun w' h' => rbytes_any (negP a) w')) ?_
    refine AllSure.cons (OpSure.take (v := .bool true) (by kernel_rfl) (by kernel_rfl) (fun _ _ => (run_eqs (s := bytesOf (negP a)) (t := bytesOf (negP a)) (by kernel_rfl) (by kernel_rfl) true (decide_eq_true rfl)))) ?_
    refine AllSure.cons (OpSure.take (v := .bool true) (by kernel_rfl) (by kernel_rfl) (fun _ _ => (by kernel_rfl))) ?_
    refine AllSure.cons (OpSure.take (v := .bool true) (by kernel_rfl) (by kernel_rfl) (fun _ _ => (by kernel_rfl))) ?_
    refine AllSure.cons (OpSure.take (v := arr a) (by kernel_rfl) (by kernel_rfl) (fun _ h => run_load_blk (by kernel_rfl) (h.get 3 rfl) Tryd.underlying26 rfl info26)) ?_
    refine AllSure.cons (OpSure.take (v := arr b) (by kernel_rfl) (by kernel_rfl) (fun _ h => run_load_blk (by kernel_rfl) (h.get 2 rfl) Tryd.underlying26 rfl info26)) ?_
    refine AllSure.cons (sure_call (v := .bool false) (by kernel_rfl) (by kernel_rfl) enter30 HA.keep #[arr a, arr b] (by kernel_rfl) (fun w' h' => Same_no a b ha hb hab w')) ?_
    refine AllSure.cons (OpSure.take (v := rarr a) (by kernel_rfl) (by kernel_rfl) (fun _ h => run_load_blk (by kernel_rfl) (h.get 1 rfl) Tryd.underlying30 rfl (info_rl _))) ?_
    refine AllSure.cons (OpSure.take (v := rarr b) (by kernel_rfl) (by kernel_rfl) (fun _ h => run_load_blk (by kernel_rfl) (h.get 0 rfl) Tryd.underlying30 rfl (info_rl _))) ?_
    refine AllSure.cons (OpSure.take (v := .bool false) (by kernel_rfl) (by kernel_rfl) (fun _ _ => (run_eq30 a b (Nat.lt_trans ha (by decide)) (Nat.lt_trans hb (by decide)) (by kernel_rfl) (by kernel_rfl) false (decide_eq_false hab)))) ?_
    refine AllSure.cons (OpSure.take (v := .bool true) (by kernel_rfl) (by kernel_rfl) (fun _ _ => (run_eqb false false (by kernel_rfl) (by kernel_rfl)))) ?_
    refine AllSure.cons (OpSure.take (v := .bool true) (by kernel_rfl) (by kernel_rfl) (fun _ _ => (by kernel_rfl))) ?_
    refine AllSure.cons (OpSure.take (v := .bool true) (by kernel_rfl) (by kernel_rfl) (fun _ _ => (by kernel_rfl))) ?_
    refine AllSure.cons (OpSure.take (v := arr a) (by kernel_rfl) (by kernel_rfl) (fun _ h => run_load_blk (by kernel_rfl) (h.get 3 rfl) Tryd.underlying26 rfl info26)) ?_
    refine AllSure.cons (OpSure.take (v := arr a) (by kernel_rfl) (by kernel_rfl) (fun _ h => run_load_blk (by kernel_rfl) (h.get 3 rfl) Tryd.underlying26 rfl info26)) ?_
    refine AllSure.cons (sure_call (v := .bool true) (by kernel_rfl) (by kernel_rfl) enter30 HA.keep #[arr a, arr a] (by kernel_rfl) (fun w' h' => Same_yes a a ha ha rfl w')) ?_
    refine AllSure.cons (OpSure.take (v := .bool true) (by kernel_rfl) (by kernel_rfl) (fun _ _ => (by kernel_rfl))) ?_
    refine AllSure.cons (OpSure.take (v := .bool true) (by kernel_rfl) (by kernel_rfl) (fun _ _ => (by kernel_rfl))) ?_
    refine AllSure.cons (sure_call (v := .bool true) (by kernel_rfl) (by kernel_rfl) enter19 HA.keep #[] (by kernel_rfl) (fun w' h' => works_any w' (VV.out.below h'.old VV.out.big))) ?_
    refine AllSure.cons (OpSure.take (v := .bool true) (by kernel_rfl) (by kernel_rfl) (fun _ _ => (by kernel_rfl))) ?_
    refine AllSure.cons (OpSure.take (v := .bool true) (by kernel_rfl) (by kernel_rfl) (fun _ _ => (by kernel_rfl))) ?_
    exact AllSure.nil
  intro w19 h20
  refine then_at (F := ⟨(.agg c0 :: .agg c1 :: pt q1 :: pt q4 :: .bool true :: pt q11 :: pt q12 :: pt q17 :: pt q18 :: .agg c0 :: arr a :: .agg c1 :: arr b :: .agg c0 :: rarr a :: .agg c1 :: rarr b :: arr a :: arr b :: arr (addP a b) :: .string (bytesOf (addP a b)) :: rarr a :: rarr b :: rarr (addP a b) :: .string (bytesOf (addP a b)) :: .bool true :: .bool true :: arr a :: arr b :: arr (subP a b) :: .string (bytesOf (subP a b)) :: rarr a :: rarr b :: rarr (subP a b) :: .string (bytesOf (subP a b)) :: .bool true :: .bool true :: .bool true :: arr a :: arr b :: arr (mulP a b) :: .string (bytesOf (mulP a b)) :: rarr a :: rarr b :: rarr (mulP a b) :: .string (bytesOf (mulP a b)) :: .bool true :: .bool true :: .bool true :: arr a :: arr (negP a) :: .string (bytesOf (negP a)) :: rarr a :: rarr (negP a) :: .string (bytesOf (negP a)) :: .bool true :: .bool true :: .bool true :: arr a :: arr b :: .bool false :: rarr a :: rarr b :: .bool false :: .bool true :: .bool true :: .bool true :: arr a :: arr a :: .bool true :: .bool true :: .bool true :: .bool true :: .bool true :: List.replicate 0 un).toArray, []⟩) (by kernel_rfl) ?_
  refine wp_ret ?_
  repeat first | refine then_ret ?_ | refine block_ret ?_
  exact bodyPost_ret (v := .bool true) (by kernel_rfl) rfl ⟨rfl, h20.old⟩
theorem FieldSums_any (l m : List UInt8) (hl : l.length = 32) (hm : m.length = 32) (w : World) (V : Vars w) :
    Calls Tryd.prog 4 #[.agg (cs l).toArray, .agg (cs m).toArray] w fun e w' => e = .returned (.bool true) ∧ Below w.heap.size w w' := by
  have z0 : (cs l).toArray.size = 32 := by simp [cs, hl]
  have z1 : (cs m).toArray.size = 32 := by simp [cs, hm]
  by_cases h : anyP l = anyP m
  · exact sums_eq _ _ _ _ z0 z1 (anyP_lt l) (anyP_lt m) h (any1_any l hl) (any1_any m hm) (rany_any l hl) (rany_any m hm) w V
  · exact sums_ne _ _ _ _ z0 z1 (anyP_lt l) (anyP_lt m) h (any1_any l hl) (any1_any m hm) (rany_any l hl) (rany_any m hm) w V
end Go.Proofs.YtbmfmamhidccbaaDoor
