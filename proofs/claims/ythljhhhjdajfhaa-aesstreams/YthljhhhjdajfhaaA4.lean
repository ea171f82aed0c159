/-
  To encipher.
-/
import Derived.Test.YthljhhhjdajfhaaA2
namespace Go.Proofs.Ythljhhhjdajfhaa
open Go.RowKit


set_option linter.unusedVariables false in
set_option maxRecDepth 100000 in
set_option maxHeartbeats 2000000 in
theorem encipher_any (q : Nat) (l : List (BitVec 32)) (hl : l.length = 60) (x : Q4) (w : World) (hq : Blk w q 59 (cc l)) :
    Calls Try.prog 18 #[.pointer (some ⟨q, 0, none⟩), .agg (qc x)] w fun e w' => e = .returned (.agg (qc (encQ l x))) ∧ Below w.heap.size w w' := by
  have H0 := HA.start w
  go_enter Try.func18, Try.ntmps18
  refine wp_seq ?_
  -- region 0
  refine wl_region ?_
  refine wl_make H0 40 (by kernel_rfl) (run_box40 (c := qc x) (by kernel_rfl)) ?_
  intro q1 w2 h3
  refine wl_make h3 40 (by kernel_rfl) run_alloc40 ?_
  intro q4 w5 h6
  refine wl_nil ?_
  refine then_at (F := ⟨(pt q :: .agg (qc x) :: un :: pt q1 :: pt q4 :: List.replicate 46 un).toArray, []⟩) (by kernel_rfl) ?_
  refine wp_seq ?_
  -- region 1
  refine wl_region ?_
  refine wl_val (.func (.func 30) #[] #[]) (by kernel_rfl) (by kernel_rfl) ?_
  refine wl_nil ?_
  refine then_at (F := ⟨(pt q :: .agg (qc x) :: un :: pt q1 :: pt q4 :: .func (.func 30) #[] #[] :: List.replicate 45 un).toArray, []⟩) (by kernel_rfl) ?_
  refine wp_seq ?_
  -- region 2
  obtain ⟨B7, eB7⟩ : ∃ B, B = w5.heap.size := ⟨_, rfl⟩
  refine wp_region_ghost (fun g : Nat → Nat => (⟨(pt q :: .agg (qc x) :: un :: pt q1 :: pt q4 :: .func (.func 30) #[] #[] :: pt (g 7) :: un :: .agg (qc x) :: pt q :: pt q :: .pointer (some ⟨q, 256, none⟩) :: .pointer (some ⟨q, 256 + 0 * 4, none⟩) :: .agg (qc (rk l 0)) :: .agg (qc (addQ x (rk l 0))) :: List.replicate 36 un).toArray, []⟩ : Act)) (GS w [(q4, 40, qc (⟨0, 0, 0, 0⟩)), (q1, 40, qc x)] B7 1 7 8 40 (qc (⟨0, 0, 0, 0⟩)) (fun _ => qc (addQ x (rk l 0)))) [.agg (qc x), .pointer (some ⟨q, 0, none⟩), .pointer (some ⟨q, 0, none⟩), .pointer (some ⟨q, 256, none⟩), .pointer (some ⟨q, 256 + 0 * 4, none⟩), .agg (qc (rk l 0)), .agg (qc (addQ x (rk l 0))), .pointer (some ⟨0, 0, none⟩), undef] (by kernel_rfl) (by kernel_rfl) (by kernel_rfl) (by kernel_rfl) (fun _ _ _ _ h => h) (fun d hd => GS.start h6.drew eB7 (by decide) (fun _ _ => rfl) (fun j hj => hd j (Nat.lt_of_lt_of_le hj (by decide)))) ?_ ?_
  · refine AllGhost.cons (ghost_load 1 rfl (by decide) (fun _ => by kernel_rfl) (fun _ => by kernel_rfl) (fun _ => by kernel_rfl) Try.underlying40 rfl (info40 x)) ?_
    refine AllGhost.cons (ghost_plain (v := .pointer (some ⟨q, 0, none⟩)) (by decide) (fun _ => by kernel_rfl) (fun _ => by kernel_rfl) (fun _ _ => (by kernel_rfl))) ?_
    refine AllGhost.cons (ghost_plain (v := .pointer (some ⟨q, 0, none⟩)) (by decide) (fun _ => by kernel_rfl) (fun _ => by kernel_rfl) (fun _ _ => (run_nil (q := q) (by kernel_rfl)))) ?_
    refine AllGhost.cons (ghost_plain (v := .pointer (some ⟨q, 256, none⟩)) (by decide) (fun _ => by kernel_rfl) (fun _ => by kernel_rfl) (fun _ _ => (by kernel_rfl))) ?_
    refine AllGhost.cons (ghost_plain (v := .pointer (some ⟨q, 256 + 0 * 4, none⟩)) (by decide) (fun _ => by kernel_rfl) (fun _ => by kernel_rfl) (fun _ _ => (run_addr_k (k := .i64) (q := q) (o := 256) (a := 0) (m := 4) Try.underlying57 (fun w => Try.sizeOf40 w) (by kernel_rfl) (by kernel_rfl) (by decide)))) ?_
    refine AllGhost.cons (ghost_held (v := .agg (qc (rk l 0))) (by decide) (fun _ => by kernel_rfl) (fun _ => by kernel_rfl) (fun _ w' h' => run_rk (q := q) l 0 hl (by decide) (by kernel_rfl) (hq.keep h'.old))) ?_
    refine AllGhost.cons (ghost_call (v := .agg (qc (addQ x (rk l 0)))) (by decide) (fun _ => by kernel_rfl) (fun _ => by kernel_rfl) enter31 #[.agg (qc x), .agg (qc (rk l 0))] (fun _ => by kernel_rfl) (fun w' h' => added_any x (rk l 0) w')) ?_
    refine AllGhost.cons (ghost_make 0 (by decide) rfl (fun _ => by kernel_rfl) (fun _ _ => by kernel_rfl) (fun _ _ => run_alloc40)) ?_
    refine AllGhost.cons (ghost_fill 0 (by decide) rfl (fun _ => by kernel_rfl) (fun _ => by kernel_rfl) (fun _ => by kernel_rfl) (fun _ => by kernel_rfl) (info40 (addQ x (rk l 0))) (one_qc (addQ x (rk l 0))) (by kernel_rfl)) ?_
    exact AllGhost.nil
  intro g w8 g9
  have h10 : HA w [(g 7, 40, qc (addQ x (rk l 0))), (q4, 40, qc (⟨0, 0, 0, 0⟩)), (q1, 40, qc x)] w8 := g9.one
  clear g9 eB7
  generalize g 7 = q11 at h10 ⊢
  clear g
  refine then_at (F := ⟨(pt q :: .agg (qc x) :: un :: pt q1 :: pt q4 :: .func (.func 30) #[] #[] :: pt q11 :: un :: .agg (qc x) :: pt q :: pt q :: .pointer (some ⟨q, 256, none⟩) :: .pointer (some ⟨q, 256 + 0 * 4, none⟩) :: .agg (qc (rk l 0)) :: .agg (qc (addQ x (rk l 0))) :: List.replicate 36 un).toArray, []⟩) (by kernel_rfl) ?_
  refine wp_seq ?_
  refine wp_seq ?_
  -- region 3
  refine wl_region ?_
  refine wl_val (iN .i64 0) (by kernel_rfl) (by kernel_rfl) ?_
  refine wl_nil ?_
  refine then_at (F := ⟨(pt q :: .agg (qc x) :: un :: pt q1 :: pt q4 :: .func (.func 30) #[] #[] :: pt q11 :: un :: .agg (qc x) :: pt q :: pt q :: .pointer (some ⟨q, 256, none⟩) :: .pointer (some ⟨q, 256 + 0 * 4, none⟩) :: .agg (qc (rk l 0)) :: .agg (qc (addQ x (rk l 0))) :: iN .i64 0 :: List.replicate 35 un).toArray, []⟩) (by kernel_rfl) ?_
  refine wp_block ?_
  refine wp_count (fun k A w' => ∃ u12 : Nat → Value, A = ⟨(pt q :: .agg (qc x) :: un :: pt q1 :: pt q4 :: .func (.func 30) #[] #[] :: pt q11 :: u12 7 :: .agg (qc x) :: pt q :: pt q :: .pointer (some ⟨q, 256, none⟩) :: .pointer (some ⟨q, 256 + 0 * 4, none⟩) :: .agg (qc (rk l 0)) :: .agg (qc (addQ x (rk l 0))) :: iN .i64 k :: u12 16 :: u12 17 :: u12 18 :: u12 19 :: u12 20 :: u12 21 :: u12 22 :: u12 23 :: u12 24 :: u12 25 :: u12 26 :: u12 27 :: u12 28 :: u12 29 :: u12 30 :: u12 31 :: u12 32 :: u12 33 :: u12 34 :: u12 35 :: u12 36 :: u12 37 :: u12 38 :: u12 39 :: u12 40 :: u12 41 :: u12 42 :: u12 43 :: u12 44 :: u12 45 :: u12 46 :: u12 47 :: u12 48 :: u12 49 :: List.replicate 1 un).toArray, []⟩ ∧ HA w [(q11, 40, qc (encR l x k)), (q4, 40, qc (⟨0, 0, 0, 0⟩)), (q1, 40, qc x)] w') 14 ?_ ?_ ?_
  · exact ⟨fun ii => (([(7, undef), (16, undef), (17, undef), (18, undef), (19, undef), (20, undef), (21, undef), (22, undef), (23, undef), (24, undef), (25, undef), (26, undef), (27, undef), (28, undef), (29, undef), (30, undef), (31, undef), (32, undef), (33, undef), (34, undef), (35, undef), (36, undef), (37, undef), (38, undef), (39, undef), (40, undef), (41, undef), (42, undef), (43, undef), (44, undef), (45, undef), (46, undef), (47, undef), (48, undef), (49, undef)] : List (Nat × Value)).find? (·.1 == ii)).elim undef (·.2), by kernel_rfl, h10⟩
  · rintro k hk _ w13 ⟨u12, rfl, h14⟩
    refine wp_seq ?_
    -- region 4
    refine wl_region ?_
    refine wl_val (.bool true) (by kernel_rfl) (run_lss (k := .i64) (a := k) (b := 14) (by kernel_rfl) (by kernel_rfl) true (decide_eq_true (by omega))) ?_
    refine wl_nil ?_
    refine then_at (F := ⟨(pt q :: .agg (qc x) :: un :: pt q1 :: pt q4 :: .func (.func 30) #[] #[] :: pt q11 :: u12 7 :: .agg (qc x) :: pt q :: pt q :: .pointer (some ⟨q, 256, none⟩) :: .pointer (some ⟨q, 256 + 0 * 4, none⟩) :: .agg (qc (rk l 0)) :: .agg (qc (addQ x (rk l 0))) :: iN .i64 k :: .bool true :: u12 17 :: u12 18 :: u12 19 :: u12 20 :: u12 21 :: u12 22 :: u12 23 :: u12 24 :: u12 25 :: u12 26 :: u12 27 :: u12 28 :: u12 29 :: u12 30 :: u12 31 :: u12 32 :: u12 33 :: u12 34 :: u12 35 :: u12 36 :: u12 37 :: u12 38 :: u12 39 :: u12 40 :: u12 41 :: u12 42 :: u12 43 :: u12 44 :: u12 45 :: u12 46 :: u12 47 :: u12 48 :: u12 49 :: List.replicate 1 un).toArray, []⟩) (by kernel_rfl) ?_
    refine wp_seq ?_
    refine wp_cond_true (by kernel_rfl) ?_
    refine wp_skip ?_
    refine then_at (F := ⟨(pt q :: .agg (qc x) :: un :: pt q1 :: pt q4 :: .func (.func 30) #[] #[] :: pt q11 :: u12 7 :: .agg (qc x) :: pt q :: pt q :: .pointer (some ⟨q, 256, none⟩) :: .pointer (some ⟨q, 256 + 0 * 4, none⟩) :: .agg (qc (rk l 0)) :: .agg (qc (addQ x (rk l 0))) :: iN .i64 k :: .bool true :: u12 17 :: u12 18 :: u12 19 :: u12 20 :: u12 21 :: u12 22 :: u12 23 :: u12 24 :: u12 25 :: u12 26 :: u12 27 :: u12 28 :: u12 29 :: u12 30 :: u12 31 :: u12 32 :: u12 33 :: u12 34 :: u12 35 :: u12 36 :: u12 37 :: u12 38 :: u12 39 :: u12 40 :: u12 41 :: u12 42 :: u12 43 :: u12 44 :: u12 45 :: u12 46 :: u12 47 :: u12 48 :: u12 49 :: List.replicate 1 un).toArray, []⟩) (by kernel_rfl) ?_
    refine wp_seq ?_
    refine wp_block ?_
    refine wp_seq ?_
    -- region 5
    refine wl_region ?_
    refine wl_val (iN .i64 k) (by kernel_rfl) (by kernel_rfl) ?_
    refine wl_val (iN .i64 k) (by kernel_rfl) (by kernel_rfl) ?_
    refine wl_nil ?_
    refine then_at (F := ⟨(pt q :: .agg (qc x) :: un :: pt q1 :: pt q4 :: .func (.func 30) #[] #[] :: pt q11 :: iN .i64 k :: .agg (qc x) :: pt q :: pt q :: .pointer (some ⟨q, 256, none⟩) :: .pointer (some ⟨q, 256 + 0 * 4, none⟩) :: .agg (qc (rk l 0)) :: .agg (qc (addQ x (rk l 0))) :: iN .i64 k :: .bool true :: iN .i64 k :: u12 18 :: u12 19 :: u12 20 :: u12 21 :: u12 22 :: u12 23 :: u12 24 :: u12 25 :: u12 26 :: u12 27 :: u12 28 :: u12 29 :: u12 30 :: u12 31 :: u12 32 :: u12 33 :: u12 34 :: u12 35 :: u12 36 :: u12 37 :: u12 38 :: u12 39 :: u12 40 :: u12 41 :: u12 42 :: u12 43 :: u12 44 :: u12 45 :: u12 46 :: u12 47 :: u12 48 :: u12 49 :: List.replicate 1 un).toArray, []⟩) (by kernel_rfl) ?_
    refine wp_seq ?_
    -- region 6
    refine wl_region ?_
    refine wl_val (.pointer (some ⟨q, 0, none⟩)) (by kernel_rfl) (by kernel_rfl) ?_
    refine wl_load h14 0 rfl (by kernel_rfl) (by kernel_rfl) Try.underlying40 rfl (info40 (encR l x k)) ?_
    refine wl_call (v := .agg (qc (trnQ (encR l x k)))) h14 (by kernel_rfl) enter32 #[.pointer (some ⟨q, 0, none⟩), .agg (qc (encR l x k))] (by kernel_rfl) (turned_any q l (encR l x k) w13 (hq.keep h14.old)) ?_
    intro w15 h16
    refine wl_fill (c' := qc (trnQ (encR l x k))) h16 0 rfl (by kernel_rfl) (by kernel_rfl) (by kernel_rfl) rfl (info40 (trnQ (encR l x k))) (one_qc (trnQ (encR l x k))) ?_
    intro w17 (h18 : HA w [(q11, 40, qc (trnQ (encR l x k))), (q4, 40, qc (⟨0, 0, 0, 0⟩)), (q1, 40, qc x)] w17)
    refine wl_nil ?_
    refine then_at (F := ⟨(pt q :: .agg (qc x) :: un :: pt q1 :: pt q4 :: .func (.func 30) #[] #[] :: pt q11 :: iN .i64 k :: .agg (qc x) :: pt q :: pt q :: .pointer (some ⟨q, 256, none⟩) :: .pointer (some ⟨q, 256 + 0 * 4, none⟩) :: .agg (qc (rk l 0)) :: .agg (qc (addQ x (rk l 0))) :: iN .i64 k :: .bool true :: iN .i64 k :: pt q :: .agg (qc (encR l x k)) :: .agg (qc (trnQ (encR l x k))) :: u12 21 :: u12 22 :: u12 23 :: u12 24 :: u12 25 :: u12 26 :: u12 27 :: u12 28 :: u12 29 :: u12 30 :: u12 31 :: u12 32 :: u12 33 :: u12 34 :: u12 35 :: u12 36 :: u12 37 :: u12 38 :: u12 39 :: u12 40 :: u12 41 :: u12 42 :: u12 43 :: u12 44 :: u12 45 :: u12 46 :: u12 47 :: u12 48 :: u12 49 :: List.replicate 1 un).toArray, []⟩) (by kernel_rfl) ?_
    refine wp_seq ?_
    refine wp_seq ?_
    by_cases hc : k < 13
    · -- region 7
      refine wl_region ?_
      refine wl_val (iN .i64 k) (by kernel_rfl) (by kernel_rfl) ?_
      refine wl_val (.bool true) (by kernel_rfl) (run_lss (k := .i64) (a := k) (b := 13) (by kernel_rfl) (by kernel_rfl) true (decide_eq_true hc)) ?_
      refine wl_nil ?_
      refine then_at (F := ⟨(pt q :: .agg (qc x) :: un :: pt q1 :: pt q4 :: .func (.func 30) #[] #[] :: pt q11 :: iN .i64 k :: .agg (qc x) :: pt q :: pt q :: .pointer (some ⟨q, 256, none⟩) :: .pointer (some ⟨q, 256 + 0 * 4, none⟩) :: .agg (qc (rk l 0)) :: .agg (qc (addQ x (rk l 0))) :: iN .i64 k :: .bool true :: iN .i64 k :: pt q :: .agg (qc (encR l x k)) :: .agg (qc (trnQ (encR l x k))) :: iN .i64 k :: .bool true :: u12 23 :: u12 24 :: u12 25 :: u12 26 :: u12 27 :: u12 28 :: u12 29 :: u12 30 :: u12 31 :: u12 32 :: u12 33 :: u12 34 :: u12 35 :: u12 36 :: u12 37 :: u12 38 :: u12 39 :: u12 40 :: u12 41 :: u12 42 :: u12 43 :: u12 44 :: u12 45 :: u12 46 :: u12 47 :: u12 48 :: u12 49 :: List.replicate 1 un).toArray, []⟩) (by kernel_rfl) ?_
      refine wp_cond_true (by kernel_rfl) ?_
      -- region 8
      refine wp_region_ghost (fun _ : Nat → Nat => (⟨(pt q :: .agg (qc x) :: un :: pt q1 :: pt q4 :: .func (.func 30) #[] #[] :: pt q11 :: iN .i64 k :: .agg (qc x) :: pt q :: pt q :: .pointer (some ⟨q, 256, none⟩) :: .pointer (some ⟨q, 256 + 0 * 4, none⟩) :: .agg (qc (rk l 0)) :: .agg (qc (addQ x (rk l 0))) :: iN .i64 k :: .bool true :: iN .i64 k :: pt q :: .agg (qc (encR l x k)) :: .agg (qc (trnQ (encR l x k))) :: iN .i64 k :: .bool true :: .func (.func 30) #[] #[] :: pt q11 :: bv .u32 ((trnQ (encR l x k)).a) :: bv .u32 (mixW ((trnQ (encR l x k)).a)) :: .func (.func 30) #[] #[] :: .pointer (some ⟨q11, 1, none⟩) :: bv .u32 ((trnQ (encR l x k)).b) :: bv .u32 (mixW ((trnQ (encR l x k)).b)) :: .func (.func 30) #[] #[] :: .pointer (some ⟨q11, 2, none⟩) :: bv .u32 ((trnQ (encR l x k)).c) :: bv .u32 (mixW ((trnQ (encR l x k)).c)) :: .func (.func 30) #[] #[] :: .pointer (some ⟨q11, 3, none⟩) :: bv .u32 ((trnQ (encR l x k)).d) :: bv .u32 (mixW ((trnQ (encR l x k)).d)) :: .agg (qc (mixQ (trnQ (encR l x k)))) :: u12 40 :: u12 41 :: u12 42 :: u12 43 :: u12 44 :: u12 45 :: u12 46 :: u12 47 :: u12 48 :: u12 49 :: List.replicate 1 un).toArray, []⟩ : Act)) (GQ w [(q11, 40, qc (trnQ (encR l x k))), (q4, 40, qc (⟨0, 0, 0, 0⟩)), (q1, 40, qc x)] (fun i => ([[], [], [1], [0, 2], [], [], [5], [4, 6], [], [], [9], [8, 10], [], [], [13], [12, 14], [3, 7, 11, 15], [16]] : List (List Nat)).getD i []) 17 0 q11 40 (qc (mixQ (trnQ (encR l x k))))) [.func (.func 30) #[] #[], .pointer (some ⟨q11, 0, none⟩), bv .u32 ((trnQ (encR l x k)).a), bv .u32 (mixW ((trnQ (encR l x k)).a)), .func (.func 30) #[] #[], .pointer (some ⟨q11, 1, none⟩), bv .u32 ((trnQ (encR l x k)).b), bv .u32 (mixW ((trnQ (encR l x k)).b)), .func (.func 30) #[] #[], .pointer (some ⟨q11, 2, none⟩), bv .u32 ((trnQ (encR l x k)).c), bv .u32 (mixW ((trnQ (encR l x k)).c)), .func (.func 30) #[] #[], .pointer (some ⟨q11, 3, none⟩), bv .u32 ((trnQ (encR l x k)).d), bv .u32 (mixW ((trnQ (encR l x k)).d)), .agg (qc (mixQ (trnQ (encR l x k)))), undef] (by kernel_rfl) (by kernel_rfl) (by kernel_rfl) (by kernel_rfl) (fun _ _ _ _ h => h) (fun d hd => GQ.start h18.drew (hd 17 (by decide)) (Cl.start (n := 18) hd (by decide))) ?_ ?_
      · refine AllGhost.cons (gq_plain (v := .func (.func 30) #[] #[]) (by decide) (by kernel_rfl) (fun _ => by kernel_rfl) (fun _ => by kernel_rfl) (fun _ _ => (by kernel_rfl))) ?_
        refine AllGhost.cons (gq_plain (v := .pointer (some ⟨q11, 0, none⟩)) (by decide) (by kernel_rfl) (fun _ => by kernel_rfl) (fun _ => by kernel_rfl) (fun _ _ => (by kernel_rfl))) ?_
        refine AllGhost.cons (gq_read (v := bv .u32 ((trnQ (encR l x k)).a)) 0 rfl (.inr (fun d C h => (C 3 (C 16 (C 17 h 16 (by decide)) 3 (by decide)) 2 (by decide)))) (by decide) (by kernel_rfl) (fun _ => by kernel_rfl) (fun _ => by kernel_rfl) (fun _ _ hb => run_load1 (fun w => Try.isAgg38 w) (by kernel_rfl) ((hb.cell 0).trans (by kernel_rfl)))) ?_
        refine AllGhost.cons (gq_callv (v := bv .u32 (mixW ((trnQ (encR l x k)).a))) (by decide) (by kernel_rfl) (fun _ => by kernel_rfl) (fun _ => by kernel_rfl) enter30 (fun _ => by kernel_rfl) #[bv .u32 ((trnQ (encR l x k)).a)] (fun _ => by kernel_rfl) (fun w' ho => mix_any ((trnQ (encR l x k)).a) w')) ?_
        refine AllGhost.cons (gq_plain (v := .func (.func 30) #[] #[]) (by decide) (by kernel_rfl) (fun _ => by kernel_rfl) (fun _ => by kernel_rfl) (fun _ _ => (by kernel_rfl))) ?_
        refine AllGhost.cons (gq_plain (v := .pointer (some ⟨q11, 1, none⟩)) (by decide) (by kernel_rfl) (fun _ => by kernel_rfl) (fun _ => by kernel_rfl) (fun _ _ => (by kernel_rfl))) ?_
        refine AllGhost.cons (gq_read (v := bv .u32 ((trnQ (encR l x k)).b)) 0 rfl (.inr (fun d C h => (C 7 (C 16 (C 17 h 16 (by decide)) 7 (by decide)) 6 (by decide)))) (by decide) (by kernel_rfl) (fun _ => by kernel_rfl) (fun _ => by kernel_rfl) (fun _ _ hb => run_load1 (fun w => Try.isAgg38 w) (by kernel_rfl) ((hb.cell 1).trans (by kernel_rfl)))) ?_
        refine AllGhost.cons (gq_callv (v := bv .u32 (mixW ((trnQ (encR l x k)).b))) (by decide) (by kernel_rfl) (fun _ => by kernel_rfl) (fun _ => by kernel_rfl) enter30 (fun _ => by kernel_rfl) #[bv .u32 ((trnQ (encR l x k)).b)] (fun _ => by kernel_rfl) (fun w' ho => mix_any ((trnQ (encR l x k)).b) w')) ?_
        refine AllGhost.cons (gq_plain (v := .func (.func 30) #[] #[]) (by decide) (by kernel_rfl) (fun _ => by kernel_rfl) (fun _ => by kernel_rfl) (fun _ _ => (by kernel_rfl))) ?_
        refine AllGhost.cons (gq_plain (v := .pointer (some ⟨q11, 2, none⟩)) (by decide) (by kernel_rfl) (fun _ => by kernel_rfl) (fun _ => by kernel_rfl) (fun _ _ => (by kernel_rfl))) ?_
        refine AllGhost.cons (gq_read (v := bv .u32 ((trnQ (encR l x k)).c)) 0 rfl (.inr (fun d C h => (C 11 (C 16 (C 17 h 16 (by decide)) 11 (by decide)) 10 (by decide)))) (by decide) (by kernel_rfl) (fun _ => by kernel_rfl) (fun _ => by kernel_rfl) (fun _ _ hb => run_load1 (fun w => Try.isAgg38 w) (by kernel_rfl) ((hb.cell 2).trans (by kernel_rfl)))) ?_
        refine AllGhost.cons (gq_callv (v := bv .u32 (mixW ((trnQ (encR l x k)).c))) (by decide) (by kernel_rfl) (fun _ => by kernel_rfl) (fun _ => by kernel_rfl) enter30 (fun _ => by kernel_rfl) #[bv .u32 ((trnQ (encR l x k)).c)] (fun _ => by kernel_rfl) (fun w' ho => mix_any ((trnQ (encR l x k)).c) w')) ?_
        refine AllGhost.cons (gq_plain (v := .func (.func 30) #[] #[]) (by decide) (by kernel_rfl) (fun _ => by kernel_rfl) (fun _ => by kernel_rfl) (fun _ _ => (by kernel_rfl))) ?_
        refine AllGhost.cons (gq_plain (v := .pointer (some ⟨q11, 3, none⟩)) (by decide) (by kernel_rfl) (fun _ => by kernel_rfl) (fun _ => by kernel_rfl) (fun _ _ => (by kernel_rfl))) ?_
        refine AllGhost.cons (gq_read (v := bv .u32 ((trnQ (encR l x k)).d)) 0 rfl (.inr (fun d C h => (C 15 (C 16 (C 17 h 16 (by decide)) 15 (by decide)) 14 (by decide)))) (by decide) (by kernel_rfl) (fun _ => by kernel_rfl) (fun _ => by kernel_rfl) (fun _ _ hb => run_load1 (fun w => Try.isAgg38 w) (by kernel_rfl) ((hb.cell 3).trans (by kernel_rfl)))) ?_
        refine AllGhost.cons (gq_callv (v := bv .u32 (mixW ((trnQ (encR l x k)).d))) (by decide) (by kernel_rfl) (fun _ => by kernel_rfl) (fun _ => by kernel_rfl) enter30 (fun _ => by kernel_rfl) #[bv .u32 ((trnQ (encR l x k)).d)] (fun _ => by kernel_rfl) (fun w' ho => mix_any ((trnQ (encR l x k)).d) w')) ?_
        refine AllGhost.cons (gq_plain (v := .agg (qc (mixQ (trnQ (encR l x k))))) (by decide) (by kernel_rfl) (fun _ => by kernel_rfl) (fun _ => by kernel_rfl) (fun _ _ => (run_build40 (a := mixW ((trnQ (encR l x k)).a)) (b := mixW ((trnQ (encR l x k)).b)) (d := mixW ((trnQ (encR l x k)).c)) (e := mixW ((trnQ (encR l x k)).d)) (by kernel_rfl) (by kernel_rfl) (by kernel_rfl) (by kernel_rfl)))) ?_
        refine AllGhost.cons (gq_fill rfl rfl (info40 (mixQ (trnQ (encR l x k)))) (one_qc (mixQ (trnQ (encR l x k)))) (by kernel_rfl) (fun _ => by kernel_rfl) (fun _ => by kernel_rfl) (fun _ => by kernel_rfl) (fun _ => by kernel_rfl)) ?_
        exact AllGhost.nil
      intro _ w19 g20
      have h21 : HA w [(q11, 40, qc (mixQ (trnQ (encR l x k)))), (q4, 40, qc (⟨0, 0, 0, 0⟩)), (q1, 40, qc x)] w19 := g20.held
      clear g20
      refine then_at (F := ⟨(pt q :: .agg (qc x) :: un :: pt q1 :: pt q4 :: .func (.func 30) #[] #[] :: pt q11 :: iN .i64 k :: .agg (qc x) :: pt q :: pt q :: .pointer (some ⟨q, 256, none⟩) :: .pointer (some ⟨q, 256 + 0 * 4, none⟩) :: .agg (qc (rk l 0)) :: .agg (qc (addQ x (rk l 0))) :: iN .i64 k :: .bool true :: iN .i64 k :: pt q :: .agg (qc (encR l x k)) :: .agg (qc (trnQ (encR l x k))) :: iN .i64 k :: .bool true :: .func (.func 30) #[] #[] :: pt q11 :: bv .u32 ((trnQ (encR l x k)).a) :: bv .u32 (mixW ((trnQ (encR l x k)).a)) :: .func (.func 30) #[] #[] :: .pointer (some ⟨q11, 1, none⟩) :: bv .u32 ((trnQ (encR l x k)).b) :: bv .u32 (mixW ((trnQ (encR l x k)).b)) :: .func (.func 30) #[] #[] :: .pointer (some ⟨q11, 2, none⟩) :: bv .u32 ((trnQ (encR l x k)).c) :: bv .u32 (mixW ((trnQ (encR l x k)).c)) :: .func (.func 30) #[] #[] :: .pointer (some ⟨q11, 3, none⟩) :: bv .u32 ((trnQ (encR l x k)).d) :: bv .u32 (mixW ((trnQ (encR l x k)).d)) :: .agg (qc (mixQ (trnQ (encR l x k)))) :: u12 40 :: u12 41 :: u12 42 :: u12 43 :: u12 44 :: u12 45 :: u12 46 :: u12 47 :: u12 48 :: u12 49 :: List.replicate 1 un).toArray, []⟩) (by kernel_rfl) ?_
      -- region 9
      refine wp_region_ghost (fun _ : Nat → Nat => (⟨(pt q :: .agg (qc x) :: un :: pt q1 :: pt q4 :: .func (.func 30) #[] #[] :: pt q11 :: iN .i64 k :: .agg (qc x) :: pt q :: pt q :: .pointer (some ⟨q, 256, none⟩) :: .pointer (some ⟨q, 256 + 0 * 4, none⟩) :: .agg (qc (rk l 0)) :: .agg (qc (addQ x (rk l 0))) :: iN .i64 k :: .bool true :: iN .i64 k :: pt q :: .agg (qc (encR l x k)) :: .agg (qc (trnQ (encR l x k))) :: iN .i64 k :: .bool true :: .func (.func 30) #[] #[] :: pt q11 :: bv .u32 ((trnQ (encR l x k)).a) :: bv .u32 (mixW ((trnQ (encR l x k)).a)) :: .func (.func 30) #[] #[] :: .pointer (some ⟨q11, 1, none⟩) :: bv .u32 ((trnQ (encR l x k)).b) :: bv .u32 (mixW ((trnQ (encR l x k)).b)) :: .func (.func 30) #[] #[] :: .pointer (some ⟨q11, 2, none⟩) :: bv .u32 ((trnQ (encR l x k)).c) :: bv .u32 (mixW ((trnQ (encR l x k)).c)) :: .func (.func 30) #[] #[] :: .pointer (some ⟨q11, 3, none⟩) :: bv .u32 ((trnQ (encR l x k)).d) :: bv .u32 (mixW ((trnQ (encR l x k)).d)) :: .agg (qc (mixQ (trnQ (encR l x k)))) :: .agg (qc (mixQ (trnQ (encR l x k)))) :: pt q :: iN .i64 k :: iN .i64 (k + 1) :: pt q :: .pointer (some ⟨q, 256, none⟩) :: .pointer (some ⟨q, 256 + (k + 1) * 4, none⟩) :: .agg (qc (rk l (k + 1))) :: .agg (qc (addQ (mixQ (trnQ (encR l x k))) (rk l (k + 1)))) :: u12 49 :: List.replicate 1 un).toArray, []⟩ : Act)) (GQ w [(q11, 40, qc (mixQ (trnQ (encR l x k)))), (q4, 40, qc (⟨0, 0, 0, 0⟩)), (q1, 40, qc x)] (fun i => ([[], [], [], [2], [1], [4], [5, 3], [6], [0, 7], [8]] : List (List Nat)).getD i []) 9 0 q11 40 (qc (addQ (mixQ (trnQ (encR l x k))) (rk l (k + 1))))) [.agg (qc (mixQ (trnQ (encR l x k)))), .pointer (some ⟨q, 0, none⟩), iN .i64 k, iN .i64 (k + 1), .pointer (some ⟨q, 0, none⟩), .pointer (some ⟨q, 256, none⟩), .pointer (some ⟨q, 256 + (k + 1) * 4, none⟩), .agg (qc (rk l (k + 1))), .agg (qc (addQ (mixQ (trnQ (encR l x k))) (rk l (k + 1)))), undef] (by kernel_rfl) (by kernel_rfl) (by kernel_rfl) (by kernel_rfl) (fun _ _ _ _ h => h) (fun d hd => GQ.start h21.drew (hd 9 (by decide)) (Cl.start (n := 10) hd (by decide))) ?_ ?_
      · refine AllGhost.cons (gq_read (v := .agg (qc (mixQ (trnQ (encR l x k))))) 0 rfl (.inr (fun d C h => (C 8 (C 9 h 8 (by decide)) 0 (by decide)))) (by decide) (by kernel_rfl) (fun _ => by kernel_rfl) (fun _ => by kernel_rfl) (fun _ _ hb => run_load_blk (by kernel_rfl) hb Try.underlying40 rfl (info40 (mixQ (trnQ (encR l x k)))))) ?_
        refine AllGhost.cons (gq_plain (v := .pointer (some ⟨q, 0, none⟩)) (by decide) (by kernel_rfl) (fun _ => by kernel_rfl) (fun _ => by kernel_rfl) (fun _ _ => (by kernel_rfl))) ?_
        refine AllGhost.cons (gq_plain (v := iN .i64 k) (by decide) (by kernel_rfl) (fun _ => by kernel_rfl) (fun _ => by kernel_rfl) (fun _ _ => (by kernel_rfl))) ?_
        refine AllGhost.cons (gq_plain (v := iN .i64 (k + 1)) (by decide) (by kernel_rfl) (fun _ => by kernel_rfl) (fun _ => by kernel_rfl) (fun _ _ => (run_add (k := .i64) (a := k) (b := 1) (by kernel_rfl) (by kernel_rfl) (by simp only [top]; omega)))) ?_
        refine AllGhost.cons (gq_plain (v := .pointer (some ⟨q, 0, none⟩)) (by decide) (by kernel_rfl) (fun _ => by kernel_rfl) (fun _ => by kernel_rfl) (fun _ _ => (run_nil (q := q) (by kernel_rfl)))) ?_
        refine AllGhost.cons (gq_plain (v := .pointer (some ⟨q, 256, none⟩)) (by decide) (by kernel_rfl) (fun _ => by kernel_rfl) (fun _ => by kernel_rfl) (fun _ _ => (by kernel_rfl))) ?_
        refine AllGhost.cons (gq_plain (v := .pointer (some ⟨q, 256 + (k + 1) * 4, none⟩)) (by decide) (by kernel_rfl) (fun _ => by kernel_rfl) (fun _ => by kernel_rfl) (fun _ _ => (run_addr_k (k := .i64) (q := q) (o := 256) (a := k + 1) (m := 4) Try.underlying57 (fun w => Try.sizeOf40 w) (by kernel_rfl) (by kernel_rfl) (by omega)))) ?_
        refine AllGhost.cons (gq_old (v := .agg (qc (rk l (k + 1)))) (by decide) (by kernel_rfl) (fun _ => by kernel_rfl) (fun _ => by kernel_rfl) (fun _ w' ho => run_rk (q := q) l (k + 1) hl (by omega) (by kernel_rfl) (hq.keep ho))) ?_
        refine AllGhost.cons (gq_call (v := .agg (qc (addQ (mixQ (trnQ (encR l x k))) (rk l (k + 1))))) (by decide) (by kernel_rfl) (fun _ => by kernel_rfl) (fun _ => by kernel_rfl) enter31 #[.agg (qc (mixQ (trnQ (encR l x k)))), .agg (qc (rk l (k + 1)))] (fun _ => by kernel_rfl) (fun w' ho => added_any (mixQ (trnQ (encR l x k))) (rk l (k + 1)) w')) ?_
        refine AllGhost.cons (gq_fill rfl rfl (info40 (addQ (mixQ (trnQ (encR l x k))) (rk l (k + 1)))) (one_qc (addQ (mixQ (trnQ (encR l x k))) (rk l (k + 1)))) (by kernel_rfl) (fun _ => by kernel_rfl) (fun _ => by kernel_rfl) (fun _ => by kernel_rfl) (fun _ => by kernel_rfl)) ?_
        exact AllGhost.nil
      intro _ w22 g23
      have h24 : HA w [(q11, 40, qc (addQ (mixQ (trnQ (encR l x k))) (rk l (k + 1)))), (q4, 40, qc (⟨0, 0, 0, 0⟩)), (q1, 40, qc x)] w22 := g23.held
      clear g23
      refine block_normal ?_
      refine then_at (F := ⟨(pt q :: .agg (qc x) :: un :: pt q1 :: pt q4 :: .func (.func 30) #[] #[] :: pt q11 :: iN .i64 k :: .agg (qc x) :: pt q :: pt q :: .pointer (some ⟨q, 256, none⟩) :: .pointer (some ⟨q, 256 + 0 * 4, none⟩) :: .agg (qc (rk l 0)) :: .agg (qc (addQ x (rk l 0))) :: iN .i64 k :: .bool true :: iN .i64 k :: pt q :: .agg (qc (encR l x k)) :: .agg (qc (trnQ (encR l x k))) :: iN .i64 k :: .bool true :: .func (.func 30) #[] #[] :: pt q11 :: bv .u32 ((trnQ (encR l x k)).a) :: bv .u32 (mixW ((trnQ (encR l x k)).a)) :: .func (.func 30) #[] #[] :: .pointer (some ⟨q11, 1, none⟩) :: bv .u32 ((trnQ (encR l x k)).b) :: bv .u32 (mixW ((trnQ (encR l x k)).b)) :: .func (.func 30) #[] #[] :: .pointer (some ⟨q11, 2, none⟩) :: bv .u32 ((trnQ (encR l x k)).c) :: bv .u32 (mixW ((trnQ (encR l x k)).c)) :: .func (.func 30) #[] #[] :: .pointer (some ⟨q11, 3, none⟩) :: bv .u32 ((trnQ (encR l x k)).d) :: bv .u32 (mixW ((trnQ (encR l x k)).d)) :: .agg (qc (mixQ (trnQ (encR l x k)))) :: .agg (qc (mixQ (trnQ (encR l x k)))) :: pt q :: iN .i64 k :: iN .i64 (k + 1) :: pt q :: .pointer (some ⟨q, 256, none⟩) :: .pointer (some ⟨q, 256 + (k + 1) * 4, none⟩) :: .agg (qc (rk l (k + 1))) :: .agg (qc (addQ (mixQ (trnQ (encR l x k))) (rk l (k + 1)))) :: u12 49 :: List.replicate 1 un).toArray, []⟩) (by kernel_rfl) ?_
      -- region 10
      refine wl_region ?_
      refine wl_val (iN .i64 (k + 1)) (by kernel_rfl) (run_add (k := .i64) (a := k) (b := 1) (by kernel_rfl) (by kernel_rfl) (by simp only [top]; omega)) ?_
      refine wl_val (iN .i64 (k + 1)) (by kernel_rfl) (by kernel_rfl) ?_
      refine wl_nil ?_
      exact then_I ⟨fun ii => (([(7, iN .i64 k), (16, .bool true), (17, iN .i64 k), (18, .pointer (some ⟨q, 0, none⟩)), (19, .agg (qc (encR l x k))), (20, .agg (qc (trnQ (encR l x k)))), (21, iN .i64 k), (22, .bool true), (23, .func (.func 30) #[] #[]), (24, .pointer (some ⟨q11, 0, none⟩)), (25, bv .u32 ((trnQ (encR l x k)).a)), (26, bv .u32 (mixW ((trnQ (encR l x k)).a))), (27, .func (.func 30) #[] #[]), (28, .pointer (some ⟨q11, 1, none⟩)), (29, bv .u32 ((trnQ (encR l x k)).b)), (30, bv .u32 (mixW ((trnQ (encR l x k)).b))), (31, .func (.func 30) #[] #[]), (32, .pointer (some ⟨q11, 2, none⟩)), (33, bv .u32 ((trnQ (encR l x k)).c)), (34, bv .u32 (mixW ((trnQ (encR l x k)).c))), (35, .func (.func 30) #[] #[]), (36, .pointer (some ⟨q11, 3, none⟩)), (37, bv .u32 ((trnQ (encR l x k)).d)), (38, bv .u32 (mixW ((trnQ (encR l x k)).d))), (39, .agg (qc (mixQ (trnQ (encR l x k))))), (40, .agg (qc (mixQ (trnQ (encR l x k))))), (41, .pointer (some ⟨q, 0, none⟩)), (42, iN .i64 k), (43, iN .i64 (k + 1)), (44, .pointer (some ⟨q, 0, none⟩)), (45, .pointer (some ⟨q, 256, none⟩)), (46, .pointer (some ⟨q, 256 + (k + 1) * 4, none⟩)), (47, .agg (qc (rk l (k + 1)))), (48, .agg (qc (addQ (mixQ (trnQ (encR l x k))) (rk l (k + 1))))), (49, iN .i64 (k + 1))] : List (Nat × Value)).find? (·.1 == ii)).elim undef (·.2), by kernel_rfl, (by rw [encR_mix l x k hc]; exact h24)⟩
    · -- region 7
      refine wl_region ?_
      refine wl_val (iN .i64 k) (by kernel_rfl) (by kernel_rfl) ?_
      refine wl_val (.bool false) (by kernel_rfl) (run_lss (k := .i64) (a := k) (b := 13) (by kernel_rfl) (by kernel_rfl) false (decide_eq_false hc)) ?_
      refine wl_nil ?_
      refine then_at (F := ⟨(pt q :: .agg (qc x) :: un :: pt q1 :: pt q4 :: .func (.func 30) #[] #[] :: pt q11 :: iN .i64 k :: .agg (qc x) :: pt q :: pt q :: .pointer (some ⟨q, 256, none⟩) :: .pointer (some ⟨q, 256 + 0 * 4, none⟩) :: .agg (qc (rk l 0)) :: .agg (qc (addQ x (rk l 0))) :: iN .i64 k :: .bool true :: iN .i64 k :: pt q :: .agg (qc (encR l x k)) :: .agg (qc (trnQ (encR l x k))) :: iN .i64 k :: .bool false :: u12 23 :: u12 24 :: u12 25 :: u12 26 :: u12 27 :: u12 28 :: u12 29 :: u12 30 :: u12 31 :: u12 32 :: u12 33 :: u12 34 :: u12 35 :: u12 36 :: u12 37 :: u12 38 :: u12 39 :: u12 40 :: u12 41 :: u12 42 :: u12 43 :: u12 44 :: u12 45 :: u12 46 :: u12 47 :: u12 48 :: u12 49 :: List.replicate 1 un).toArray, []⟩) (by kernel_rfl) ?_
      refine wp_cond_false (by kernel_rfl) ?_
      refine wp_skip ?_
      refine then_at (F := ⟨(pt q :: .agg (qc x) :: un :: pt q1 :: pt q4 :: .func (.func 30) #[] #[] :: pt q11 :: iN .i64 k :: .agg (qc x) :: pt q :: pt q :: .pointer (some ⟨q, 256, none⟩) :: .pointer (some ⟨q, 256 + 0 * 4, none⟩) :: .agg (qc (rk l 0)) :: .agg (qc (addQ x (rk l 0))) :: iN .i64 k :: .bool true :: iN .i64 k :: pt q :: .agg (qc (encR l x k)) :: .agg (qc (trnQ (encR l x k))) :: iN .i64 k :: .bool false :: u12 23 :: u12 24 :: u12 25 :: u12 26 :: u12 27 :: u12 28 :: u12 29 :: u12 30 :: u12 31 :: u12 32 :: u12 33 :: u12 34 :: u12 35 :: u12 36 :: u12 37 :: u12 38 :: u12 39 :: u12 40 :: u12 41 :: u12 42 :: u12 43 :: u12 44 :: u12 45 :: u12 46 :: u12 47 :: u12 48 :: u12 49 :: List.replicate 1 un).toArray, []⟩) (by kernel_rfl) ?_
      -- region 9
      refine wp_region_ghost (fun _ : Nat → Nat => (⟨(pt q :: .agg (qc x) :: un :: pt q1 :: pt q4 :: .func (.func 30) #[] #[] :: pt q11 :: iN .i64 k :: .agg (qc x) :: pt q :: pt q :: .pointer (some ⟨q, 256, none⟩) :: .pointer (some ⟨q, 256 + 0 * 4, none⟩) :: .agg (qc (rk l 0)) :: .agg (qc (addQ x (rk l 0))) :: iN .i64 k :: .bool true :: iN .i64 k :: pt q :: .agg (qc (encR l x k)) :: .agg (qc (trnQ (encR l x k))) :: iN .i64 k :: .bool false :: u12 23 :: u12 24 :: u12 25 :: u12 26 :: u12 27 :: u12 28 :: u12 29 :: u12 30 :: u12 31 :: u12 32 :: u12 33 :: u12 34 :: u12 35 :: u12 36 :: u12 37 :: u12 38 :: u12 39 :: .agg (qc (trnQ (encR l x k))) :: pt q :: iN .i64 k :: iN .i64 (k + 1) :: pt q :: .pointer (some ⟨q, 256, none⟩) :: .pointer (some ⟨q, 256 + (k + 1) * 4, none⟩) :: .agg (qc (rk l (k + 1))) :: .agg (qc (addQ (trnQ (encR l x k)) (rk l (k + 1)))) :: u12 49 :: List.replicate 1 un).toArray, []⟩ : Act)) (GQ w [(q11, 40, qc (trnQ (encR l x k))), (q4, 40, qc (⟨0, 0, 0, 0⟩)), (q1, 40, qc x)] (fun i => ([[], [], [], [2], [1], [4], [5, 3], [6], [0, 7], [8]] : List (List Nat)).getD i []) 9 0 q11 40 (qc (addQ (trnQ (encR l x k)) (rk l (k + 1))))) [.agg (qc (trnQ (encR l x k))), .pointer (some ⟨q, 0, none⟩), iN .i64 k, iN .i64 (k + 1), .pointer (some ⟨q, 0, none⟩), .pointer (some ⟨q, 256, none⟩), .pointer (some ⟨q, 256 + (k + 1) * 4, none⟩), .agg (qc (rk l (k + 1))), .agg (qc (addQ (trnQ (encR l x k)) (rk l (k + 1)))), undef] (by kernel_rfl) (by kernel_rfl) (by kernel_rfl) (by kernel_rfl) (fun _ _ _ _ h => h) (fun d hd => GQ.start h18.drew (hd 9 (by decide)) (Cl.start (n := 10) hd (by decide))) ?_ ?_
      · refine AllGhost.cons (gq_read (v := .agg (qc (trnQ (encR l x k)))) 0 rfl (.inr (fun d C h => (C 8 (C 9 h 8 (by decide)) 0 (by decide)))) (by decide) (by kernel_rfl) (fun _ => by kernel_rfl) (fun _ => by kernel_rfl) (fun _ _ hb => run_load_blk (by kernel_rfl) hb Try.underlying40 rfl (info40 (trnQ (encR l x k))))) ?_
        refine AllGhost.cons (gq_plain (v := .pointer (some ⟨q, 0, none⟩)) (by decide) (by kernel_rfl) (fun _ => by kernel_rfl) (fun _ => by kernel_rfl) (fun _ _ => (by kernel_rfl))) ?_
        refine AllGhost.cons (gq_plain (v := iN .i64 k) (by decide) (by kernel_rfl) (fun _ => by kernel_rfl) (fun _ => by kernel_rfl) (fun _ _ => (by kernel_rfl))) ?_
        refine AllGhost.cons (gq_plain (v := iN .i64 (k + 1)) (by decide) (by kernel_rfl) (fun _ => by kernel_rfl) (fun _ => by kernel_rfl) (fun _ _ => (run_add (k := .i64) (a := k) (b := 1) (by kernel_rfl) (by kernel_rfl) (by simp only [top]; omega)))) ?_
        refine AllGhost.cons (gq_plain (v := .pointer (some ⟨q, 0, none⟩)) (by decide) (by kernel_rfl) (fun _ => by kernel_rfl) (fun _ => by kernel_rfl) (fun _ _ => (run_nil (q := q) (by kernel_rfl)))) ?_
        refine AllGhost.cons (gq_plain (v := .pointer (some ⟨q, 256, none⟩)) (by decide) (by kernel_rfl) (fun _ => by kernel_rfl) (fun _ => by kernel_rfl) (fun _ _ => (by kernel_rfl))) ?_
        refine AllGhost.cons (gq_plain (v := .pointer (some ⟨q, 256 + (k + 1) * 4, none⟩)) (by decide) (by kernel_rfl) (fun _ => by kernel_rfl) (fun _ => by kernel_rfl) (fun _ _ => (run_addr_k (k := .i64) (q := q) (o := 256) (a := k + 1) (m := 4) Try.underlying57 (fun w => Try.sizeOf40 w) (by kernel_rfl) (by kernel_rfl) (by omega)))) ?_
        refine AllGhost.cons (gq_old (v := .agg (qc (rk l (k + 1)))) (by decide) (by kernel_rfl) (fun _ => by kernel_rfl) (fun _ => by kernel_rfl) (fun _ w' ho => run_rk (q := q) l (k + 1) hl (by omega) (by kernel_rfl) (hq.keep ho))) ?_
        refine AllGhost.cons (gq_call (v := .agg (qc (addQ (trnQ (encR l x k)) (rk l (k + 1))))) (by decide) (by kernel_rfl) (fun _ => by kernel_rfl) (fun _ => by kernel_rfl) enter31 #[.agg (qc (trnQ (encR l x k))), .agg (qc (rk l (k + 1)))] (fun _ => by kernel_rfl) (fun w' ho => added_any (trnQ (encR l x k)) (rk l (k + 1)) w')) ?_
        refine AllGhost.cons (gq_fill rfl rfl (info40 (addQ (trnQ (encR l x k)) (rk l (k + 1)))) (one_qc (addQ (trnQ (encR l x k)) (rk l (k + 1)))) (by kernel_rfl) (fun _ => by kernel_rfl) (fun _ => by kernel_rfl) (fun _ => by kernel_rfl) (fun _ => by kernel_rfl)) ?_
        exact AllGhost.nil
      intro _ w25 g26
      have h27 : HA w [(q11, 40, qc (addQ (trnQ (encR l x k)) (rk l (k + 1)))), (q4, 40, qc (⟨0, 0, 0, 0⟩)), (q1, 40, qc x)] w25 := g26.held
      clear g26
      refine block_normal ?_
      refine then_at (F := ⟨(pt q :: .agg (qc x) :: un :: pt q1 :: pt q4 :: .func (.func 30) #[] #[] :: pt q11 :: iN .i64 k :: .agg (qc x) :: pt q :: pt q :: .pointer (some ⟨q, 256, none⟩) :: .pointer (some ⟨q, 256 + 0 * 4, none⟩) :: .agg (qc (rk l 0)) :: .agg (qc (addQ x (rk l 0))) :: iN .i64 k :: .bool true :: iN .i64 k :: pt q :: .agg (qc (encR l x k)) :: .agg (qc (trnQ (encR l x k))) :: iN .i64 k :: .bool false :: u12 23 :: u12 24 :: u12 25 :: u12 26 :: u12 27 :: u12 28 :: u12 29 :: u12 30 :: u12 31 :: u12 32 :: u12 33 :: u12 34 :: u12 35 :: u12 36 :: u12 37 :: u12 38 :: u12 39 :: .agg (qc (trnQ (encR l x k))) :: pt q :: iN .i64 k :: iN .i64 (k + 1) :: pt q :: .pointer (some ⟨q, 256, none⟩) :: .pointer (some ⟨q, 256 + (k + 1) * 4, none⟩) :: .agg (qc (rk l (k + 1))) :: .agg (qc (addQ (trnQ (encR l x k)) (rk l (k + 1)))) :: u12 49 :: List.replicate 1 un).toArray, []⟩) (by kernel_rfl) ?_
      -- region 10
      refine wl_region ?_
      refine wl_val (iN .i64 (k + 1)) (by kernel_rfl) (run_add (k := .i64) (a := k) (b := 1) (by kernel_rfl) (by kernel_rfl) (by simp only [top]; omega)) ?_
      refine wl_val (iN .i64 (k + 1)) (by kernel_rfl) (by kernel_rfl) ?_
      refine wl_nil ?_
      exact then_I ⟨fun ii => (([(7, iN .i64 k), (16, .bool true), (17, iN .i64 k), (18, .pointer (some ⟨q, 0, none⟩)), (19, .agg (qc (encR l x k))), (20, .agg (qc (trnQ (encR l x k)))), (21, iN .i64 k), (22, .bool false), (23, u12 23), (24, u12 24), (25, u12 25), (26, u12 26), (27, u12 27), (28, u12 28), (29, u12 29), (30, u12 30), (31, u12 31), (32, u12 32), (33, u12 33), (34, u12 34), (35, u12 35), (36, u12 36), (37, u12 37), (38, u12 38), (39, u12 39), (40, .agg (qc (trnQ (encR l x k)))), (41, .pointer (some ⟨q, 0, none⟩)), (42, iN .i64 k), (43, iN .i64 (k + 1)), (44, .pointer (some ⟨q, 0, none⟩)), (45, .pointer (some ⟨q, 256, none⟩)), (46, .pointer (some ⟨q, 256 + (k + 1) * 4, none⟩)), (47, .agg (qc (rk l (k + 1)))), (48, .agg (qc (addQ (trnQ (encR l x k)) (rk l (k + 1))))), (49, iN .i64 (k + 1))] : List (Nat × Value)).find? (·.1 == ii)).elim undef (·.2), by kernel_rfl, (by rw [encR_last l x k hc]; exact h27)⟩
  · rintro _ w28 ⟨u12, rfl, h29⟩
    refine wp_seq ?_
    -- region 4
    refine wl_region ?_
    refine wl_val (.bool false) (by kernel_rfl) (run_lss (k := .i64) (a := 14) (b := 14) (by kernel_rfl) (by kernel_rfl) false (by decide)) ?_
    refine wl_nil ?_
    refine then_at (F := ⟨(pt q :: .agg (qc x) :: un :: pt q1 :: pt q4 :: .func (.func 30) #[] #[] :: pt q11 :: u12 7 :: .agg (qc x) :: pt q :: pt q :: .pointer (some ⟨q, 256, none⟩) :: .pointer (some ⟨q, 256 + 0 * 4, none⟩) :: .agg (qc (rk l 0)) :: .agg (qc (addQ x (rk l 0))) :: iN .i64 14 :: .bool false :: u12 17 :: u12 18 :: u12 19 :: u12 20 :: u12 21 :: u12 22 :: u12 23 :: u12 24 :: u12 25 :: u12 26 :: u12 27 :: u12 28 :: u12 29 :: u12 30 :: u12 31 :: u12 32 :: u12 33 :: u12 34 :: u12 35 :: u12 36 :: u12 37 :: u12 38 :: u12 39 :: u12 40 :: u12 41 :: u12 42 :: u12 43 :: u12 44 :: u12 45 :: u12 46 :: u12 47 :: u12 48 :: u12 49 :: List.replicate 1 un).toArray, []⟩) (by kernel_rfl) ?_
    refine wp_seq ?_
    refine wp_cond_false (by kernel_rfl) ?_
    refine wp_exit ?_
    repeat first | refine then_exit ?_ | refine block_exit ?_ | refine block_exit_ne (by decide) ?_
    refine then_at (F := ⟨(pt q :: .agg (qc x) :: un :: pt q1 :: pt q4 :: .func (.func 30) #[] #[] :: pt q11 :: u12 7 :: .agg (qc x) :: pt q :: pt q :: .pointer (some ⟨q, 256, none⟩) :: .pointer (some ⟨q, 256 + 0 * 4, none⟩) :: .agg (qc (rk l 0)) :: .agg (qc (addQ x (rk l 0))) :: iN .i64 14 :: .bool false :: u12 17 :: u12 18 :: u12 19 :: u12 20 :: u12 21 :: u12 22 :: u12 23 :: u12 24 :: u12 25 :: u12 26 :: u12 27 :: u12 28 :: u12 29 :: u12 30 :: u12 31 :: u12 32 :: u12 33 :: u12 34 :: u12 35 :: u12 36 :: u12 37 :: u12 38 :: u12 39 :: u12 40 :: u12 41 :: u12 42 :: u12 43 :: u12 44 :: u12 45 :: u12 46 :: u12 47 :: u12 48 :: u12 49 :: List.replicate 1 un).toArray, []⟩) (by kernel_rfl) ?_
    refine wp_seq ?_
    -- region 11
    refine wl_region ?_
    refine wl_load h29 0 rfl (by kernel_rfl) (by kernel_rfl) Try.underlying40 rfl (info40 (encR l x 14)) ?_
    refine wl_fill (c' := qc (encR l x 14)) h29 1 rfl (by kernel_rfl) (by kernel_rfl) (by kernel_rfl) rfl (info40 (encR l x 14)) (one_qc (encR l x 14)) ?_
    intro w30 (h31 : HA w [(q11, 40, qc (encR l x 14)), (q4, 40, qc (encR l x 14)), (q1, 40, qc x)] w30)
    refine wl_nil ?_
    refine then_at (F := ⟨(pt q :: .agg (qc x) :: un :: pt q1 :: pt q4 :: .func (.func 30) #[] #[] :: pt q11 :: u12 7 :: .agg (qc x) :: pt q :: pt q :: .pointer (some ⟨q, 256, none⟩) :: .pointer (some ⟨q, 256 + 0 * 4, none⟩) :: .agg (qc (rk l 0)) :: .agg (qc (addQ x (rk l 0))) :: iN .i64 14 :: .bool false :: u12 17 :: u12 18 :: u12 19 :: u12 20 :: u12 21 :: u12 22 :: u12 23 :: u12 24 :: u12 25 :: u12 26 :: u12 27 :: u12 28 :: u12 29 :: u12 30 :: u12 31 :: u12 32 :: u12 33 :: u12 34 :: u12 35 :: u12 36 :: u12 37 :: u12 38 :: u12 39 :: u12 40 :: u12 41 :: u12 42 :: u12 43 :: u12 44 :: u12 45 :: u12 46 :: u12 47 :: u12 48 :: u12 49 :: .agg (qc (encR l x 14)) :: List.replicate 0 un).toArray, []⟩) (by kernel_rfl) ?_
    refine wp_ret ?_
    repeat first | refine then_ret ?_ | refine block_ret ?_
    exact bodyPost_ret (v := .agg (qc (encR l x 14))) (res_cell (p := 4) (by kernel_rfl) (by kernel_rfl) (h31.get 1 rfl) Try.underlying40 rfl (info40 (encR l x 14))) rfl ⟨rfl, h31.old⟩
end Go.Proofs.Ythljhhhjdajfhaa
