/-
  the law of what is known.
-/
import Derived.Test.YtdhgjnfdbhidcaaDoorHKf
namespace Go.Proofs.YtdhgjnfdbhidcaaDoor
open Go.RowKit


set_option linter.unusedVariables false in
set_option maxRecDepth 100000 in
set_option maxHeartbeats 2000000 in
theorem HashKnown_any (w : World) (VV : Vars w) :
    Calls Tryd.prog 6 #[] w fun e w' => e = .returned (.bool true) ∧ Below w.heap.size w w' := by
  have H0 := HA.start w
  go_enter Tryd.func6, Tryd.ntmps6
  refine wp_seq ?_
  -- region 0
  refine wl_region ?_
  refine wl_val (.bool false) (by kernel_rfl) (by kernel_rfl) ?_
  refine wl_nil ?_
  refine then_at (F := ⟨(.bool false :: List.replicate 74 un).toArray, []⟩) (by kernel_rfl) ?_
  refine wp_seq ?_
  -- region 1
  refine wl_region ?_
  refine wl_mks (n := 128) (m := 128) H0 5 (by kernel_rfl) (run_mk (k := .i64) (m := 128) (c := 128) (by kernel_rfl) (by kernel_rfl) (by decide) (by decide)) ?_
  intro q1 w2 h3
  refine wl_val (.slice (some ⟨q1, 0, none⟩) 128 128) (by kernel_rfl) (by kernel_rfl) ?_
  refine wl_nil ?_
  refine then_at (F := ⟨(.bool false :: .slice (some ⟨q1, 0, none⟩) 128 128 :: un :: un :: un :: un :: un :: un :: .slice (some ⟨q1, 0, none⟩) 128 128 :: List.replicate 66 un).toArray, []⟩) (by kernel_rfl) ?_
  refine wp_seq ?_
  refine wp_seq ?_
  -- region 2
  refine wl_region ?_
  refine wl_val (iN .i64 0) (by kernel_rfl) (by kernel_rfl) ?_
  refine wl_nil ?_
  refine then_at (F := ⟨(.bool false :: .slice (some ⟨q1, 0, none⟩) 128 128 :: iN .i64 0 :: un :: un :: un :: un :: un :: .slice (some ⟨q1, 0, none⟩) 128 128 :: List.replicate 66 un).toArray, []⟩) (by kernel_rfl) ?_
  refine wp_block ?_
  refine wp_count (fun k A w' => ∃ u4 : Nat → Value, A = ⟨(.bool false :: .slice (some ⟨q1, 0, none⟩) 128 128 :: iN .i64 k :: un :: un :: un :: un :: un :: .slice (some ⟨q1, 0, none⟩) 128 128 :: u4 9 :: u4 10 :: u4 11 :: u4 12 :: u4 13 :: u4 14 :: u4 15 :: List.replicate 59 un).toArray, []⟩ ∧ HA w [(q1, 5, bc (List.replicate k 97 ++ List.replicate (128 - k) 0))] w') 128 ?_ ?_ ?_
  · exact ⟨fun ii => (([(9, undef), (10, undef), (11, undef), (12, undef), (13, undef), (14, undef), (15, undef)] : List (Nat × Value)).find? (·.1 == ii)).elim undef (·.2), by kernel_rfl, h3⟩
  · rintro k hk _ w5 ⟨u4, rfl, h6⟩
    refine wp_seq ?_
    refine wp_seq ?_
    -- region 3
    refine wl_region ?_
    refine wl_val (iN .i64 k) (by kernel_rfl) (by kernel_rfl) ?_
    refine wl_val (.bool true) (by kernel_rfl) (run_lss (k := .i64) (a := k) (b := 128) (by kernel_rfl) (by kernel_rfl) true (decide_eq_true hk)) ?_
    refine wl_nil ?_
    refine then_at (F := ⟨(.bool false :: .slice (some ⟨q1, 0, none⟩) 128 128 :: iN .i64 k :: un :: un :: un :: un :: un :: .slice (some ⟨q1, 0, none⟩) 128 128 :: iN .i64 k :: .bool true :: u4 11 :: u4 12 :: u4 13 :: u4 14 :: u4 15 :: List.replicate 59 un).toArray, []⟩) (by kernel_rfl) ?_
    refine wp_cond_true (by kernel_rfl) ?_
    refine wp_skip ?_
    refine then_at (F := ⟨(.bool false :: .slice (some ⟨q1, 0, none⟩) 128 128 :: iN .i64 k :: un :: un :: un :: un :: un :: .slice (some ⟨q1, 0, none⟩) 128 128 :: iN .i64 k :: .bool true :: u4 11 :: u4 12 :: u4 13 :: u4 14 :: u4 15 :: List.replicate 59 un).toArray, []⟩) (by kernel_rfl) ?_
    refine wp_seq ?_
    refine wp_block ?_
    -- region 5
    refine wl_region ?_
    refine wl_val (.slice (some ⟨q1, 0, none⟩) 128 128) (by kernel_rfl) (by kernel_rfl) ?_
    refine wl_val (iN .i64 k) (by kernel_rfl) (by kernel_rfl) ?_
    refine wl_val (.pointer (some ⟨q1, k, none⟩)) (by kernel_rfl) (run_addr_slice (q := q1) (n := 128) (m := 128) (a := k) Tryd.underlying28 (fun w => Tryd.sizeOf5 w) (by kernel_rfl) (by kernel_rfl) (by omega)) ?_
    refine wl_put (k := .u8) (z := ((97 : Nat) : Int)) h6 0 rfl k (by rw [bc_size, (as_len k (by omega))]; omega) (by kernel_rfl) (fun w => Tryd.sizeOf5 w) (by kernel_rfl) (by kernel_rfl) ?_
    intro w7 h8
    have h9 : HA w [(q1, 5, bc (List.replicate (k + 1) 97 ++ List.replicate (128 - (k + 1)) 0))] w7 := by
      have e : (bc (List.replicate k 97 ++ List.replicate (128 - k) 0)).setIfInBounds k (.int .u8 ((97 : Nat) : Int)) = bc (List.replicate (k + 1) 97 ++ List.replicate (128 - (k + 1)) 0) := (as_put k hk)
      rw [← e]; exact h8
    clear h8
    refine wl_nil ?_
    refine block_normal ?_
    refine then_at (F := ⟨(.bool false :: .slice (some ⟨q1, 0, none⟩) 128 128 :: iN .i64 k :: un :: un :: un :: un :: un :: .slice (some ⟨q1, 0, none⟩) 128 128 :: iN .i64 k :: .bool true :: u4 11 :: u4 12 :: .slice (some ⟨q1, 0, none⟩) 128 128 :: iN .i64 k :: .pointer (some ⟨q1, k, none⟩) :: List.replicate 59 un).toArray, []⟩) (by kernel_rfl) ?_
    -- region 4
    refine wl_region ?_
    refine wl_val (iN .i64 k) (by kernel_rfl) (by kernel_rfl) ?_
    refine wl_val (iN .i64 (k + 1)) (by kernel_rfl) (run_add (k := .i64) (a := k) (b := 1) (by kernel_rfl) (by kernel_rfl) (by simp only [top]; omega)) ?_
    refine wl_val (iN .i64 (k + 1)) (by kernel_rfl) (by kernel_rfl) ?_
    refine wl_nil ?_
    exact then_I ⟨fun ii => (([(9, iN .i64 k), (10, .bool true), (11, iN .i64 k), (12, iN .i64 (k + 1)), (13, .slice (some ⟨q1, 0, none⟩) 128 128), (14, iN .i64 k), (15, .pointer (some ⟨q1, k, none⟩))] : List (Nat × Value)).find? (·.1 == ii)).elim undef (·.2), by kernel_rfl, h9⟩
  · rintro _ w10 ⟨u4, rfl, h11⟩
    refine wp_seq ?_
    refine wp_seq ?_
    -- region 3
    refine wl_region ?_
    refine wl_val (iN .i64 128) (by kernel_rfl) (by kernel_rfl) ?_
    refine wl_val (.bool false) (by kernel_rfl) (run_lss (k := .i64) (a := 128) (b := 128) (by kernel_rfl) (by kernel_rfl) false (by decide)) ?_
    refine wl_nil ?_
    refine then_at (F := ⟨(.bool false :: .slice (some ⟨q1, 0, none⟩) 128 128 :: iN .i64 128 :: un :: un :: un :: un :: un :: .slice (some ⟨q1, 0, none⟩) 128 128 :: iN .i64 128 :: .bool false :: u4 11 :: u4 12 :: u4 13 :: u4 14 :: u4 15 :: List.replicate 59 un).toArray, []⟩) (by kernel_rfl) ?_
    refine wp_cond_false (by kernel_rfl) ?_
    refine wp_exit ?_
    repeat first | refine then_exit ?_ | refine block_exit ?_ | refine block_exit_ne (by decide) ?_
    refine then_at (F := ⟨(.bool false :: .slice (some ⟨q1, 0, none⟩) 128 128 :: iN .i64 128 :: un :: un :: un :: un :: un :: .slice (some ⟨q1, 0, none⟩) 128 128 :: iN .i64 128 :: .bool false :: u4 11 :: u4 12 :: u4 13 :: u4 14 :: u4 15 :: List.replicate 59 un).toArray, []⟩) (by kernel_rfl) ?_
    refine wp_seq ?_
    -- region 6
    refine wl_region ?_
    refine wl_val (.slice (some ⟨q1, 0, none⟩) 128 128) (by kernel_rfl) (by kernel_rfl) ?_
    refine wl_val (.string aS) (by kernel_rfl) ((by rw [aS_eq]; exact run_text (q := q1) (m := 128) (c := 128) (l := List.replicate 128 97 ++ List.replicate (128 - 128) 0) (by kernel_rfl) (h11.get 0 rfl) (by rw [(as_len 128 (by omega))]; omega))) ?_
    refine wl_val (.string aS) (by kernel_rfl) (by kernel_rfl) ?_
    refine wl_nil ?_
    refine then_at (F := ⟨(.bool false :: .slice (some ⟨q1, 0, none⟩) 128 128 :: iN .i64 128 :: .string aS :: un :: un :: un :: un :: .slice (some ⟨q1, 0, none⟩) 128 128 :: iN .i64 128 :: .bool false :: u4 11 :: u4 12 :: u4 13 :: u4 14 :: u4 15 :: .slice (some ⟨q1, 0, none⟩) 128 128 :: .string aS :: List.replicate 57 un).toArray, []⟩) (by kernel_rfl) ?_
    refine wp_seq ?_
    refine wp_seq ?_
    -- region 7
    refine wl_region ?_
    refine wl_mks (n := 4) (m := 4) (c := ic nS) h11 3 (by kernel_rfl) (by kernel_rfl) ?_
    intro q12 w13 h14
    refine wl_val (iN .i64 4) (by kernel_rfl) (run_len29 (q := some ⟨q12, 0, none⟩) (m := 4) (c := 4) (by kernel_rfl)) ?_
    refine wl_val (iN .i64 0) (by kernel_rfl) (by kernel_rfl) ?_
    refine wl_nil ?_
    refine then_at (F := ⟨(.bool false :: .slice (some ⟨q1, 0, none⟩) 128 128 :: iN .i64 128 :: .string aS :: un :: un :: un :: un :: .slice (some ⟨q1, 0, none⟩) 128 128 :: iN .i64 128 :: .bool false :: u4 11 :: u4 12 :: u4 13 :: u4 14 :: u4 15 :: .slice (some ⟨q1, 0, none⟩) 128 128 :: .string aS :: .slice (some ⟨q12, 0, none⟩) 4 4 :: iN .i64 4 :: iN .i64 0 :: List.replicate 54 un).toArray, []⟩) (by kernel_rfl) ?_
    refine wp_block ?_
    refine wp_count (fun k A w' => ∃ u15 : Nat → Value, A = ⟨(u15 0 :: .slice (some ⟨q1, 0, none⟩) 128 128 :: iN .i64 128 :: .string aS :: u15 4 :: u15 5 :: un :: un :: .slice (some ⟨q1, 0, none⟩) 128 128 :: iN .i64 128 :: .bool false :: u4 11 :: u4 12 :: u4 13 :: u4 14 :: u4 15 :: .slice (some ⟨q1, 0, none⟩) 128 128 :: .string aS :: .slice (some ⟨q12, 0, none⟩) 4 4 :: iN .i64 4 :: iN .i64 k :: u15 21 :: u15 22 :: u15 23 :: u15 24 :: u15 25 :: u15 26 :: u15 27 :: u15 28 :: u15 29 :: u15 30 :: u15 31 :: u15 32 :: u15 33 :: u15 34 :: u15 35 :: u15 36 :: List.replicate 38 un).toArray, []⟩ ∧ HA w [(q12, 3, ic nS), (q1, 5, bc (List.replicate 128 97 ++ List.replicate (128 - 128) 0))] w') 4 ?_ ?_ ?_
    · exact ⟨fun ii => (([(0, .bool false), (4, undef), (5, undef), (21, undef), (22, undef), (23, undef), (24, undef), (25, undef), (26, undef), (27, undef), (28, undef), (29, undef), (30, undef), (31, undef), (32, undef), (33, undef), (34, undef), (35, undef), (36, undef)] : List (Nat × Value)).find? (·.1 == ii)).elim undef (·.2), by kernel_rfl, h14⟩
    · rintro k hk _ w16 ⟨u15, rfl, h17⟩
      refine wp_seq ?_
      -- region 8
      refine wl_region ?_
      refine wl_val (.bool true) (by kernel_rfl) (run_lss (k := .i64) (a := k) (b := 4) (by kernel_rfl) (by kernel_rfl) true (decide_eq_true hk)) ?_
      refine wl_nil ?_
      refine then_at (F := ⟨(u15 0 :: .slice (some ⟨q1, 0, none⟩) 128 128 :: iN .i64 128 :: .string aS :: u15 4 :: u15 5 :: un :: un :: .slice (some ⟨q1, 0, none⟩) 128 128 :: iN .i64 128 :: .bool false :: u4 11 :: u4 12 :: u4 13 :: u4 14 :: u4 15 :: .slice (some ⟨q1, 0, none⟩) 128 128 :: .string aS :: .slice (some ⟨q12, 0, none⟩) 4 4 :: iN .i64 4 :: iN .i64 k :: .bool true :: u15 22 :: u15 23 :: u15 24 :: u15 25 :: u15 26 :: u15 27 :: u15 28 :: u15 29 :: u15 30 :: u15 31 :: u15 32 :: u15 33 :: u15 34 :: u15 35 :: u15 36 :: List.replicate 38 un).toArray, []⟩) (by kernel_rfl) ?_
      refine wp_seq ?_
      refine wp_cond_true (by kernel_rfl) ?_
      refine wp_skip ?_
      refine then_at (F := ⟨(u15 0 :: .slice (some ⟨q1, 0, none⟩) 128 128 :: iN .i64 128 :: .string aS :: u15 4 :: u15 5 :: un :: un :: .slice (some ⟨q1, 0, none⟩) 128 128 :: iN .i64 128 :: .bool false :: u4 11 :: u4 12 :: u4 13 :: u4 14 :: u4 15 :: .slice (some ⟨q1, 0, none⟩) 128 128 :: .string aS :: .slice (some ⟨q12, 0, none⟩) 4 4 :: iN .i64 4 :: iN .i64 k :: .bool true :: u15 22 :: u15 23 :: u15 24 :: u15 25 :: u15 26 :: u15 27 :: u15 28 :: u15 29 :: u15 30 :: u15 31 :: u15 32 :: u15 33 :: u15 34 :: u15 35 :: u15 36 :: List.replicate 38 un).toArray, []⟩) (by kernel_rfl) ?_
      refine wp_seq ?_
      refine wp_block ?_
      refine wp_seq ?_
      -- region 9
      refine wl_region ?_
      refine wl_val (iN .i64 k) (by kernel_rfl) (by kernel_rfl) ?_
      refine wl_val (.pointer (some ⟨q12, k, none⟩)) (by kernel_rfl) (run_addr_slice (q := q12) (n := 4) (m := 4) (a := k) Tryd.underlying29 (fun w => Tryd.sizeOf3 w) (by kernel_rfl) (by kernel_rfl) (by omega)) ?_
      refine wl_val (iN .i64 (nS.getD k 0)) (by kernel_rfl) (run_load1 (fun w => Tryd.isAgg3 w) (by kernel_rfl) (((h17.get 0 rfl).cell k).trans (ic_get nS k (by show k < 4; omega)))) ?_
      refine wl_val (iN .i64 k) (by kernel_rfl) (by kernel_rfl) ?_
      refine wl_val (iN .i64 (nS.getD k 0)) (by kernel_rfl) (by kernel_rfl) ?_
      refine wl_nil ?_
      refine then_at (F := ⟨(u15 0 :: .slice (some ⟨q1, 0, none⟩) 128 128 :: iN .i64 128 :: .string aS :: iN .i64 k :: iN .i64 (nS.getD k 0) :: un :: un :: .slice (some ⟨q1, 0, none⟩) 128 128 :: iN .i64 128 :: .bool false :: u4 11 :: u4 12 :: u4 13 :: u4 14 :: u4 15 :: .slice (some ⟨q1, 0, none⟩) 128 128 :: .string aS :: .slice (some ⟨q12, 0, none⟩) 4 4 :: iN .i64 4 :: iN .i64 k :: .bool true :: iN .i64 k :: .pointer (some ⟨q12, k, none⟩) :: iN .i64 (nS.getD k 0) :: u15 25 :: u15 26 :: u15 27 :: u15 28 :: u15 29 :: u15 30 :: u15 31 :: u15 32 :: u15 33 :: u15 34 :: u15 35 :: u15 36 :: List.replicate 38 un).toArray, []⟩) (by kernel_rfl) ?_
      refine wp_seq ?_
      -- region 10
      refine wp_region_ghost (fun g : Nat → Nat => (⟨(u15 0 :: .slice (some ⟨q1, 0, none⟩) 128 128 :: iN .i64 128 :: .string aS :: iN .i64 k :: iN .i64 (nS.getD k 0) :: un :: un :: .slice (some ⟨q1, 0, none⟩) 128 128 :: iN .i64 128 :: .bool false :: u4 11 :: u4 12 :: u4 13 :: u4 14 :: u4 15 :: .slice (some ⟨q1, 0, none⟩) 128 128 :: .string aS :: .slice (some ⟨q12, 0, none⟩) 4 4 :: iN .i64 4 :: iN .i64 k :: .bool true :: iN .i64 k :: .pointer (some ⟨q12, k, none⟩) :: iN .i64 (nS.getD k 0) :: .string aS :: iN .i64 (nS.getD k 0) :: .string (pS k) :: .slice (some ⟨g 3, 0, none⟩) 1 1 :: .string (qS k) :: .string (hS k) :: .slice (some ⟨g 6, 0, none⟩) 4 4 :: iN .i64 k :: .pointer (some ⟨g 8, k, none⟩) :: .string (tS.getD k ByteArray.empty) :: .bool false :: u15 36 :: List.replicate 38 un).toArray, []⟩ : Act)) (GC w [(q12, 3, ic nS), (q1, 5, bc (List.replicate 128 97 ++ List.replicate (128 - 128) 0))] [(3, 9, psc [pS k]), (6, 9, psc tS)] (fun i => ([[], [], [0, 1], [2], [3], [4], [], [], [6, 7], [8], [5, 9]] : List (List Nat)).getD i []) 8 6) [.string aS, iN .i64 (nS.getD k 0), .string (pS k), .slice (some ⟨0, 0, none⟩) 1 1, .string (qS k), .string (hS k), .slice (some ⟨0, 0, none⟩) 4 4, iN .i64 k, .pointer (some ⟨0, k, none⟩), .string (tS.getD k ByteArray.empty), .bool false] (by kernel_rfl) (by kernel_rfl) (by kernel_rfl) (by kernel_rfl) (fun _ _ _ _ h => h) (fun d hd => ⟨GM.start h17.drew 11 (by kernel_rfl) hd, Cl.start (n := 11) hd (by decide), fun e => absurd e (by rw [hd 8 (by decide)]; decide)⟩) ?_ ?_
      · refine AllGhost.cons (gc_plain (v := .string aS) (by kernel_rfl) (by decide) (by kernel_rfl) (fun _ => by kernel_rfl) (fun _ => by kernel_rfl) (fun _ _ => (by kernel_rfl))) ?_
        refine AllGhost.cons (gc_plain (v := iN .i64 (nS.getD k 0)) (by kernel_rfl) (by decide) (by kernel_rfl) (fun _ => by kernel_rfl) (fun _ => by kernel_rfl) (fun _ _ => (by kernel_rfl))) ?_
        refine AllGhost.cons (gc_plain (v := .string (pS k)) (by kernel_rfl) (by decide) (by kernel_rfl) (fun _ => by kernel_rfl) (fun _ => by kernel_rfl) (fun _ _ => run_cut_hi (s := aS) (b := nS.getD k 0) (by kernel_rfl) (by kernel_rfl) (nS_le k hk))) ?_
        refine AllGhost.cons (gc_make (c := psc [pS k]) (fun m => .slice (some ⟨m, 0, none⟩) 1 1) (by kernel_rfl) (by decide) (by decide) (by kernel_rfl) (by simp) (fun _ => by kernel_rfl) (fun _ _ => by kernel_rfl) (fun _ _ => run_bs1 (u := pS k) (by kernel_rfl))) ?_
        refine AllGhost.cons (gc_callr (v := .string (qS k)) 0 rfl (by kernel_rfl) (by decide) (by kernel_rfl) (fun d C h => (h 3 (by decide))) (fun _ => by kernel_rfl) (fun _ => by kernel_rfl) enter7 (fun g => #[.slice (some ⟨g 3, 0, none⟩) 1 1]) (fun _ => by kernel_rfl) (fun g w' h' hb => shaS [pS k] (some ⟨g 3, 0, none⟩) 1 w' (VV.below h'.old VV.big) (parts_ofc hb) (sz_one _ (pS_le k hk)) (show 1 ≤ 1000000 by decide))) ?_
        refine AllGhost.cons (gc_call (v := .string (hS k)) (by kernel_rfl) (by decide) (by kernel_rfl) (fun _ => by kernel_rfl) (fun _ => by kernel_rfl) enter12 #[.string (qS k)] (fun _ => by kernel_rfl) (fun w' h' => hexc (qS k) (by unfold qS; rw [dig_szS]; decide) w')) ?_
        refine AllGhost.cons (gc_make (c := psc tS) (fun m => .slice (some ⟨m, 0, none⟩) 4 4) (by kernel_rfl) (by decide) (by decide) (by kernel_rfl) (by simp) (fun _ => by kernel_rfl) (fun _ _ => by kernel_rfl) (fun _ _ => run_bs4 (a := { data := #[101, 51, 98, 48, 99, 52, 52, 50, 57, 56, 102, 99, 49, 99, 49, 52, 57, 97, 102, 98, 102, 52, 99, 56, 57, 57, 54, 102, 98, 57, 50, 52, 50, 55, 97, 101, 52, 49, 101, 52, 54, 52, 57, 98, 57, 51, 52, 99, 97, 52, 57, 53, 57, 57, 49, 98, 55, 56, 53, 50, 98, 56, 53, 53] }) (b := { data := #[57, 102, 52, 51, 57, 48, 102, 56, 100, 51, 48, 99, 50, 100, 100, 57, 50, 101, 99, 57, 102, 48, 57, 53, 98, 54, 53, 101, 50, 98, 57, 97, 101, 57, 98, 48, 97, 57, 50, 53, 97, 53, 50, 53, 56, 101, 50, 52, 49, 99, 57, 102, 49, 101, 57, 49, 48, 102, 55, 51, 52, 51, 49, 56] }) (c := { data := #[98, 51, 53, 52, 51, 57, 97, 52, 97, 99, 54, 102, 48, 57, 52, 56, 98, 54, 100, 54, 102, 57, 101, 51, 99, 54, 97, 102, 48, 102, 53, 102, 53, 57, 48, 99, 101, 50, 48, 102, 49, 98, 100, 101, 55, 48, 57, 48, 101, 102, 55, 57, 55, 48, 54, 56, 54, 101, 99, 54, 55, 51, 56, 97] }) (d := { data := #[102, 102, 101, 48, 53, 52, 102, 101, 55, 97, 101, 48, 99, 98, 54, 100, 99, 54, 53, 99, 51, 97, 102, 57, 98, 54, 49, 100, 53, 50, 48, 57, 102, 52, 51, 57, 56, 53, 49, 100, 98, 52, 51, 100, 48, 98, 97, 53, 57, 57, 55, 51, 51, 55, 100, 102, 49, 53, 52, 54, 54, 56, 101, 98] }) (by kernel_rfl) (by kernel_rfl) (by kernel_rfl) (by kernel_rfl))) ?_
        refine AllGhost.cons (gc_plain (v := iN .i64 k) (by kernel_rfl) (by decide) (by kernel_rfl) (fun _ => by kernel_rfl) (fun _ => by kernel_rfl) (fun _ _ => (by kernel_rfl))) ?_
        refine AllGhost.cons (gc_link (v := fun m => .pointer (some ⟨m, k, none⟩)) (by kernel_rfl) (by decide) (by kernel_rfl) (fun _ => by kernel_rfl) (fun _ => by kernel_rfl) (fun g _ => run_addr26 (q := g 6) (m := 4) (c := 4) (i := k) (by kernel_rfl) (by kernel_rfl) hk)) ?_
        refine AllGhost.cons (gc_reads (v := .string (tS.getD k ByteArray.empty)) 1 rfl (by kernel_rfl) (by decide) (by kernel_rfl) (fun d C h => (C 8 (h 8 (by decide)) 6 (by decide))) (by decide) (fun _ => by kernel_rfl) (fun _ => by kernel_rfl) (fun g w' hl hb => run_load1 (q := g 8) (i := k) (fun w => Tryd.isAgg9 w) (by kernel_rfl) ((by rw [hl]; exact hb.cell k : w'.cell? ⟨g 8, k, none⟩ = (psc tS)[k]?).trans (by simp [psc, List.getElem?_eq_getElem (show k < tS.length from hk)])))) ?_
        refine AllGhost.cons (gc_plain (v := .bool false) (by kernel_rfl) (by decide) (by kernel_rfl) (fun _ => by kernel_rfl) (fun _ => by kernel_rfl) (fun _ _ => run_nes (s := hS k) (t := tS.getD k ByteArray.empty) (by kernel_rfl) (by kernel_rfl) false (by rw [hS_eq k hk]; simp))) ?_
        exact AllGhost.nil
      intro g w18 g19
      have h20 := g19.gm.held
      clear g19
      generalize g 3 = u21
      generalize g 6 = u22
      generalize g 8 = u23
      clear g
      refine then_at (F := ⟨(u15 0 :: .slice (some ⟨q1, 0, none⟩) 128 128 :: iN .i64 128 :: .string aS :: iN .i64 k :: iN .i64 (nS.getD k 0) :: un :: un :: .slice (some ⟨q1, 0, none⟩) 128 128 :: iN .i64 128 :: .bool false :: u4 11 :: u4 12 :: u4 13 :: u4 14 :: u4 15 :: .slice (some ⟨q1, 0, none⟩) 128 128 :: .string aS :: .slice (some ⟨q12, 0, none⟩) 4 4 :: iN .i64 4 :: iN .i64 k :: .bool true :: iN .i64 k :: .pointer (some ⟨q12, k, none⟩) :: iN .i64 (nS.getD k 0) :: .string aS :: iN .i64 (nS.getD k 0) :: .string (pS k) :: .slice (some ⟨u21, 0, none⟩) 1 1 :: .string (qS k) :: .string (hS k) :: .slice (some ⟨u22, 0, none⟩) 4 4 :: iN .i64 k :: .pointer (some ⟨u23, k, none⟩) :: .string (tS.getD k ByteArray.empty) :: .bool false :: u15 36 :: List.replicate 38 un).toArray, []⟩) (by kernel_rfl) ?_
      refine wp_cond_false (by kernel_rfl) ?_
      refine wp_skip ?_
      refine block_normal ?_
      refine then_at (F := ⟨(u15 0 :: .slice (some ⟨q1, 0, none⟩) 128 128 :: iN .i64 128 :: .string aS :: iN .i64 k :: iN .i64 (nS.getD k 0) :: un :: un :: .slice (some ⟨q1, 0, none⟩) 128 128 :: iN .i64 128 :: .bool false :: u4 11 :: u4 12 :: u4 13 :: u4 14 :: u4 15 :: .slice (some ⟨q1, 0, none⟩) 128 128 :: .string aS :: .slice (some ⟨q12, 0, none⟩) 4 4 :: iN .i64 4 :: iN .i64 k :: .bool true :: iN .i64 k :: .pointer (some ⟨q12, k, none⟩) :: iN .i64 (nS.getD k 0) :: .string aS :: iN .i64 (nS.getD k 0) :: .string (pS k) :: .slice (some ⟨u21, 0, none⟩) 1 1 :: .string (qS k) :: .string (hS k) :: .slice (some ⟨u22, 0, none⟩) 4 4 :: iN .i64 k :: .pointer (some ⟨u23, k, none⟩) :: .string (tS.getD k ByteArray.empty) :: .bool false :: u15 36 :: List.replicate 38 un).toArray, []⟩) (by kernel_rfl) ?_
      -- region 12
      refine wl_region ?_
      refine wl_val (iN .i64 (k + 1)) (by kernel_rfl) (run_add (k := .i64) (a := k) (b := 1) (by kernel_rfl) (by kernel_rfl) (by simp only [top]; omega)) ?_
      refine wl_val (iN .i64 (k + 1)) (by kernel_rfl) (by kernel_rfl) ?_
      refine wl_nil ?_
      exact then_I ⟨fun ii => (([(0, u15 0), (4, iN .i64 k), (5, iN .i64 (nS.getD k 0)), (21, .bool true), (22, iN .i64 k), (23, .pointer (some ⟨q12, k, none⟩)), (24, iN .i64 (nS.getD k 0)), (25, .string aS), (26, iN .i64 (nS.getD k 0)), (27, .string (pS k)), (28, .slice (some ⟨u21, 0, none⟩) 1 1), (29, .string (qS k)), (30, .string (hS k)), (31, .slice (some ⟨u22, 0, none⟩) 4 4), (32, iN .i64 k), (33, .pointer (some ⟨u23, k, none⟩)), (34, .string (tS.getD k ByteArray.empty)), (35, .bool false), (36, iN .i64 (k + 1))] : List (Nat × Value)).find? (·.1 == ii)).elim undef (·.2), by kernel_rfl, h20⟩
    · rintro _ w24 ⟨u15, rfl, h25⟩
      refine wp_seq ?_
      -- region 8
      refine wl_region ?_
      refine wl_val (.bool false) (by kernel_rfl) (run_lss (k := .i64) (a := 4) (b := 4) (by kernel_rfl) (by kernel_rfl) false (by decide)) ?_
      refine wl_nil ?_
      refine then_at (F := ⟨(u15 0 :: .slice (some ⟨q1, 0, none⟩) 128 128 :: iN .i64 128 :: .string aS :: u15 4 :: u15 5 :: un :: un :: .slice (some ⟨q1, 0, none⟩) 128 128 :: iN .i64 128 :: .bool false :: u4 11 :: u4 12 :: u4 13 :: u4 14 :: u4 15 :: .slice (some ⟨q1, 0, none⟩) 128 128 :: .string aS :: .slice (some ⟨q12, 0, none⟩) 4 4 :: iN .i64 4 :: iN .i64 4 :: .bool false :: u15 22 :: u15 23 :: u15 24 :: u15 25 :: u15 26 :: u15 27 :: u15 28 :: u15 29 :: u15 30 :: u15 31 :: u15 32 :: u15 33 :: u15 34 :: u15 35 :: u15 36 :: List.replicate 38 un).toArray, []⟩) (by kernel_rfl) ?_
      refine wp_seq ?_
      refine wp_cond_false (by kernel_rfl) ?_
      refine wp_exit ?_
      repeat first | refine then_exit ?_ | refine block_exit ?_ | refine block_exit_ne (by decide) ?_
      refine then_at (F := ⟨(u15 0 :: .slice (some ⟨q1, 0, none⟩) 128 128 :: iN .i64 128 :: .string aS :: u15 4 :: u15 5 :: un :: un :: .slice (some ⟨q1, 0, none⟩) 128 128 :: iN .i64 128 :: .bool false :: u4 11 :: u4 12 :: u4 13 :: u4 14 :: u4 15 :: .slice (some ⟨q1, 0, none⟩) 128 128 :: .string aS :: .slice (some ⟨q12, 0, none⟩) 4 4 :: iN .i64 4 :: iN .i64 4 :: .bool false :: u15 22 :: u15 23 :: u15 24 :: u15 25 :: u15 26 :: u15 27 :: u15 28 :: u15 29 :: u15 30 :: u15 31 :: u15 32 :: u15 33 :: u15 34 :: u15 35 :: u15 36 :: List.replicate 38 un).toArray, []⟩) (by kernel_rfl) ?_
      refine wp_seq ?_
      refine wp_seq ?_
      -- region 13
      refine wl_region ?_
      refine wl_mks (n := 4) (m := 4) (c := ic nL) h25 3 (by kernel_rfl) (by kernel_rfl) ?_
      intro q26 w27 h28
      refine wl_val (iN .i64 4) (by kernel_rfl) (run_len29 (q := some ⟨q26, 0, none⟩) (m := 4) (c := 4) (by kernel_rfl)) ?_
      refine wl_val (iN .i64 0) (by kernel_rfl) (by kernel_rfl) ?_
      refine wl_nil ?_
      refine then_at (F := ⟨(u15 0 :: .slice (some ⟨q1, 0, none⟩) 128 128 :: iN .i64 128 :: .string aS :: u15 4 :: u15 5 :: un :: un :: .slice (some ⟨q1, 0, none⟩) 128 128 :: iN .i64 128 :: .bool false :: u4 11 :: u4 12 :: u4 13 :: u4 14 :: u4 15 :: .slice (some ⟨q1, 0, none⟩) 128 128 :: .string aS :: .slice (some ⟨q12, 0, none⟩) 4 4 :: iN .i64 4 :: iN .i64 4 :: .bool false :: u15 22 :: u15 23 :: u15 24 :: u15 25 :: u15 26 :: u15 27 :: u15 28 :: u15 29 :: u15 30 :: u15 31 :: u15 32 :: u15 33 :: u15 34 :: u15 35 :: u15 36 :: .slice (some ⟨q26, 0, none⟩) 4 4 :: iN .i64 4 :: iN .i64 0 :: List.replicate 35 un).toArray, []⟩) (by kernel_rfl) ?_
      refine wp_block ?_
      refine wp_count (fun k A w' => ∃ u29 : Nat → Value, A = ⟨(u29 0 :: .slice (some ⟨q1, 0, none⟩) 128 128 :: iN .i64 128 :: .string aS :: u15 4 :: u15 5 :: u29 6 :: u29 7 :: .slice (some ⟨q1, 0, none⟩) 128 128 :: iN .i64 128 :: .bool false :: u4 11 :: u4 12 :: u4 13 :: u4 14 :: u4 15 :: .slice (some ⟨q1, 0, none⟩) 128 128 :: .string aS :: .slice (some ⟨q12, 0, none⟩) 4 4 :: iN .i64 4 :: iN .i64 4 :: .bool false :: u15 22 :: u15 23 :: u15 24 :: u15 25 :: u15 26 :: u15 27 :: u15 28 :: u15 29 :: u15 30 :: u15 31 :: u15 32 :: u15 33 :: u15 34 :: u15 35 :: u15 36 :: .slice (some ⟨q26, 0, none⟩) 4 4 :: iN .i64 4 :: iN .i64 k :: u29 40 :: u29 41 :: u29 42 :: u29 43 :: u29 44 :: u29 45 :: u29 46 :: u29 47 :: u29 48 :: u29 49 :: u29 50 :: u29 51 :: u29 52 :: u29 53 :: u29 54 :: u29 55 :: List.replicate 19 un).toArray, []⟩ ∧ HA w [(q26, 3, ic nL), (q12, 3, ic nS), (q1, 5, bc (List.replicate 128 97 ++ List.replicate (128 - 128) 0))] w') 4 ?_ ?_ ?_
      · exact ⟨fun ii => (([(0, u15 0), (6, undef), (7, undef), (40, undef), (41, undef), (42, undef), (43, undef), (44, undef), (45, undef), (46, undef), (47, undef), (48, undef), (49, undef), (50, undef), (51, undef), (52, undef), (53, undef), (54, undef), (55, undef)] : List (Nat × Value)).find? (·.1 == ii)).elim undef (·.2), by kernel_rfl, h28⟩
      · rintro k hk _ w30 ⟨u29, rfl, h31⟩
        refine wp_seq ?_
        -- region 14
        refine wl_region ?_
        refine wl_val (.bool true) (by kernel_rfl) (run_lss (k := .i64) (a := k) (b := 4) (by kernel_rfl) (by kernel_rfl) true (decide_eq_true hk)) ?_
        refine wl_nil ?_
        refine then_at (F := ⟨(u29 0 :: .slice (some ⟨q1, 0, none⟩) 128 128 :: iN .i64 128 :: .string aS :: u15 4 :: u15 5 :: u29 6 :: u29 7 :: .slice (some ⟨q1, 0, none⟩) 128 128 :: iN .i64 128 :: .bool false :: u4 11 :: u4 12 :: u4 13 :: u4 14 :: u4 15 :: .slice (some ⟨q1, 0, none⟩) 128 128 :: .string aS :: .slice (some ⟨q12, 0, none⟩) 4 4 :: iN .i64 4 :: iN .i64 4 :: .bool false :: u15 22 :: u15 23 :: u15 24 :: u15 25 :: u15 26 :: u15 27 :: u15 28 :: u15 29 :: u15 30 :: u15 31 :: u15 32 :: u15 33 :: u15 34 :: u15 35 :: u15 36 :: .slice (some ⟨q26, 0, none⟩) 4 4 :: iN .i64 4 :: iN .i64 k :: .bool true :: u29 41 :: u29 42 :: u29 43 :: u29 44 :: u29 45 :: u29 46 :: u29 47 :: u29 48 :: u29 49 :: u29 50 :: u29 51 :: u29 52 :: u29 53 :: u29 54 :: u29 55 :: List.replicate 19 un).toArray, []⟩) (by kernel_rfl) ?_
        refine wp_seq ?_
        refine wp_cond_true (by kernel_rfl) ?_
        refine wp_skip ?_
        refine then_at (F := ⟨(u29 0 :: .slice (some ⟨q1, 0, none⟩) 128 128 :: iN .i64 128 :: .string aS :: u15 4 :: u15 5 :: u29 6 :: u29 7 :: .slice (some ⟨q1, 0, none⟩) 128 128 :: iN .i64 128 :: .bool false :: u4 11 :: u4 12 :: u4 13 :: u4 14 :: u4 15 :: .slice (some ⟨q1, 0, none⟩) 128 128 :: .string aS :: .slice (some ⟨q12, 0, none⟩) 4 4 :: iN .i64 4 :: iN .i64 4 :: .bool false :: u15 22 :: u15 23 :: u15 24 :: u15 25 :: u15 26 :: u15 27 :: u15 28 :: u15 29 :: u15 30 :: u15 31 :: u15 32 :: u15 33 :: u15 34 :: u15 35 :: u15 36 :: .slice (some ⟨q26, 0, none⟩) 4 4 :: iN .i64 4 :: iN .i64 k :: .bool true :: u29 41 :: u29 42 :: u29 43 :: u29 44 :: u29 45 :: u29 46 :: u29 47 :: u29 48 :: u29 49 :: u29 50 :: u29 51 :: u29 52 :: u29 53 :: u29 54 :: u29 55 :: List.replicate 19 un).toArray, []⟩) (by kernel_rfl) ?_
        refine wp_seq ?_
        refine wp_block ?_
        refine wp_seq ?_
        -- region 15
        refine wl_region ?_
        refine wl_val (iN .i64 k) (by kernel_rfl) (by kernel_rfl) ?_
        refine wl_val (.pointer (some ⟨q26, k, none⟩)) (by kernel_rfl) (run_addr_slice (q := q26) (n := 4) (m := 4) (a := k) Tryd.underlying29 (fun w => Tryd.sizeOf3 w) (by kernel_rfl) (by kernel_rfl) (by omega)) ?_
        refine wl_val (iN .i64 (nL.getD k 0)) (by kernel_rfl) (run_load1 (fun w => Tryd.isAgg3 w) (by kernel_rfl) (((h31.get 0 rfl).cell k).trans (ic_get nL k (by show k < 4; omega)))) ?_
        refine wl_val (iN .i64 k) (by kernel_rfl) (by kernel_rfl) ?_
        refine wl_val (iN .i64 (nL.getD k 0)) (by kernel_rfl) (by kernel_rfl) ?_
        refine wl_nil ?_
        refine then_at (F := ⟨(u29 0 :: .slice (some ⟨q1, 0, none⟩) 128 128 :: iN .i64 128 :: .string aS :: u15 4 :: u15 5 :: iN .i64 k :: iN .i64 (nL.getD k 0) :: .slice (some ⟨q1, 0, none⟩) 128 128 :: iN .i64 128 :: .bool false :: u4 11 :: u4 12 :: u4 13 :: u4 14 :: u4 15 :: .slice (some ⟨q1, 0, none⟩) 128 128 :: .string aS :: .slice (some ⟨q12, 0, none⟩) 4 4 :: iN .i64 4 :: iN .i64 4 :: .bool false :: u15 22 :: u15 23 :: u15 24 :: u15 25 :: u15 26 :: u15 27 :: u15 28 :: u15 29 :: u15 30 :: u15 31 :: u15 32 :: u15 33 :: u15 34 :: u15 35 :: u15 36 :: .slice (some ⟨q26, 0, none⟩) 4 4 :: iN .i64 4 :: iN .i64 k :: .bool true :: iN .i64 k :: .pointer (some ⟨q26, k, none⟩) :: iN .i64 (nL.getD k 0) :: u29 44 :: u29 45 :: u29 46 :: u29 47 :: u29 48 :: u29 49 :: u29 50 :: u29 51 :: u29 52 :: u29 53 :: u29 54 :: u29 55 :: List.replicate 19 un).toArray, []⟩) (by kernel_rfl) ?_
        refine wp_seq ?_
        -- region 16
        refine wp_region_ghost (fun g : Nat → Nat => (⟨(u29 0 :: .slice (some ⟨q1, 0, none⟩) 128 128 :: iN .i64 128 :: .string aS :: u15 4 :: u15 5 :: iN .i64 k :: iN .i64 (nL.getD k 0) :: .slice (some ⟨q1, 0, none⟩) 128 128 :: iN .i64 128 :: .bool false :: u4 11 :: u4 12 :: u4 13 :: u4 14 :: u4 15 :: .slice (some ⟨q1, 0, none⟩) 128 128 :: .string aS :: .slice (some ⟨q12, 0, none⟩) 4 4 :: iN .i64 4 :: iN .i64 4 :: .bool false :: u15 22 :: u15 23 :: u15 24 :: u15 25 :: u15 26 :: u15 27 :: u15 28 :: u15 29 :: u15 30 :: u15 31 :: u15 32 :: u15 33 :: u15 34 :: u15 35 :: u15 36 :: .slice (some ⟨q26, 0, none⟩) 4 4 :: iN .i64 4 :: iN .i64 k :: .bool true :: iN .i64 k :: .pointer (some ⟨q26, k, none⟩) :: iN .i64 (nL.getD k 0) :: .string aS :: iN .i64 (nL.getD k 0) :: .string (pL k) :: .slice (some ⟨g 3, 0, none⟩) 1 1 :: .string (qL k) :: .string (hL k) :: .slice (some ⟨g 6, 0, none⟩) 4 4 :: iN .i64 k :: .pointer (some ⟨g 8, k, none⟩) :: .string (tL.getD k ByteArray.empty) :: .bool false :: u29 55 :: List.replicate 19 un).toArray, []⟩ : Act)) (GC w [(q26, 3, ic nL), (q12, 3, ic nS), (q1, 5, bc (List.replicate 128 97 ++ List.replicate (128 - 128) 0))] [(3, 9, psc [pL k]), (6, 9, psc tL)] (fun i => ([[], [], [0, 1], [2], [3], [4], [], [], [6, 7], [8], [5, 9]] : List (List Nat)).getD i []) 8 6) [.string aS, iN .i64 (nL.getD k 0), .string (pL k), .slice (some ⟨0, 0, none⟩) 1 1, .string (qL k), .string (hL k), .slice (some ⟨0, 0, none⟩) 4 4, iN .i64 k, .pointer (some ⟨0, k, none⟩), .string (tL.getD k ByteArray.empty), .bool false] (by kernel_rfl) (by kernel_rfl) (by kernel_rfl) (by kernel_rfl) (fun _ _ _ _ h => h) (fun d hd => ⟨GM.start h31.drew 11 (by kernel_rfl) hd, Cl.start (n := 11) hd (by decide), fun e => absurd e (by rw [hd 8 (by decide)]; decide)⟩) ?_ ?_
        · refine AllGhost.cons (gc_plain (v := .string aS) (by kernel_rfl) (by decide) (by kernel_rfl) (fun _ => by kernel_rfl) (fun _ => by kernel_rfl) (fun _ _ => (by kernel_rfl))) ?_
          refine AllGhost.cons (gc_plain (v := iN .i64 (nL.getD k 0)) (by kernel_rfl) (by decide) (by kernel_rfl) (fun _ => by kernel_rfl) (fun _ => by kernel_rfl) (fun _ _ => (by kernel_rfl))) ?_
          refine AllGhost.cons (gc_plain (v := .string (pL k)) (by kernel_rfl) (by decide) (by kernel_rfl) (fun _ => by kernel_rfl) (fun _ => by kernel_rfl) (fun _ _ => run_cut_hi (s := aS) (b := nL.getD k 0) (by kernel_rfl) (by kernel_rfl) (nL_le k hk))) ?_
          refine AllGhost.cons (gc_make (c := psc [pL k]) (fun m => .slice (some ⟨m, 0, none⟩) 1 1) (by kernel_rfl) (by decide) (by decide) (by kernel_rfl) (by simp) (fun _ => by kernel_rfl) (fun _ _ => by kernel_rfl) (fun _ _ => run_bs1 (u := pL k) (by kernel_rfl))) ?_
          refine AllGhost.cons (gc_callr (v := .string (qL k)) 0 rfl (by kernel_rfl) (by decide) (by kernel_rfl) (fun d C h => (h 3 (by decide))) (fun _ => by kernel_rfl) (fun _ => by kernel_rfl) enter10 (fun g => #[.slice (some ⟨g 3, 0, none⟩) 1 1]) (fun _ => by kernel_rfl) (fun g w' h' hb => shaL [pL k] (some ⟨g 3, 0, none⟩) 1 w' (VV.below h'.old VV.big) (parts_ofc hb) (sz_one _ (pL_le k hk)) (show 1 ≤ 1000000 by decide))) ?_
          refine AllGhost.cons (gc_call (v := .string (hL k)) (by kernel_rfl) (by decide) (by kernel_rfl) (fun _ => by kernel_rfl) (fun _ => by kernel_rfl) enter12 #[.string (qL k)] (fun _ => by kernel_rfl) (fun w' h' => hexc (qL k) (by unfold qL; rw [dig_szL]; decide) w')) ?_
          refine AllGhost.cons (gc_make (c := psc tL) (fun m => .slice (some ⟨m, 0, none⟩) 4 4) (by kernel_rfl) (by decide) (by decide) (by kernel_rfl) (by simp) (fun _ => by kernel_rfl) (fun _ _ => by kernel_rfl) (fun _ _ => run_bs4 (a := { data := ([99, 102, 56, 51, 101, 49, 51, 53, 55, 101, 101, 102, 98, 56, 98, 100, 102, 49, 53, 52, 50, 56, 53, 48, 100, 54, 54, 100, 56, 48, 48, 55, 100, 54, 50, 48, 101, 52, 48, 53, 48, 98, 53, 55, 49, 53, 100, 99, 56, 51, 102, 52, 97, 57, 50, 49, 100, 51, 54, 99, 101, 57, 99, 101].append [52, 55, 100, 48, 100, 49, 51, 99, 53, 100, 56, 53, 102, 50, 98, 48, 102, 102, 56, 51, 49, 56, 100, 50, 56, 55, 55, 101, 101, 99, 50, 102, 54, 51, 98, 57, 51, 49, 98, 100, 52, 55, 52, 49, 55, 97, 56, 49, 97, 53, 51, 56, 51, 50, 55, 97, 102, 57, 50, 55, 100, 97, 51, 101]).toArray }) (b := { data := ([102, 97, 57, 49, 50, 49, 99, 55, 98, 51, 50, 98, 57, 101, 48, 49, 55, 51, 51, 100, 48, 51, 52, 99, 102, 99, 55, 56, 99, 98, 102, 54, 55, 102, 57, 50, 54, 99, 55, 101, 100, 56, 51, 101, 56, 50, 50, 48, 48, 101, 102, 56, 54, 56, 49, 56, 49, 57, 54, 57, 50, 49, 55, 54].append [48, 98, 52, 98, 101, 102, 102, 52, 56, 52, 48, 52, 100, 102, 56, 49, 49, 98, 57, 53, 51, 56, 50, 56, 50, 55, 52, 52, 54, 49, 54, 55, 51, 99, 54, 56, 100, 48, 52, 101, 50, 57, 55, 98, 48, 101, 98, 55, 98, 50, 98, 52, 100, 54, 48, 102, 99, 54, 98, 53, 54, 54, 97, 50]).toArray }) (c := { data := ([99, 48, 49, 100, 48, 56, 48, 101, 102, 100, 52, 57, 50, 55, 55, 54, 97, 49, 99, 52, 51, 98, 100, 50, 51, 100, 100, 57, 57, 100, 48, 97, 50, 101, 54, 50, 54, 100, 52, 56, 49, 101, 49, 54, 55, 56, 50, 101, 55, 53, 100, 53, 52, 99, 50, 53, 48, 51, 98, 53, 100, 99, 51, 50].append [98, 100, 48, 53, 102, 48, 102, 49, 98, 97, 51, 51, 101, 53, 54, 56, 98, 56, 56, 102, 100, 50, 100, 57, 55, 48, 57, 50, 57, 98, 55, 49, 57, 101, 99, 98, 98, 49, 53, 50, 102, 53, 56, 102, 49, 51, 48, 97, 52, 48, 55, 99, 56, 56, 51, 48, 54, 48, 52, 98, 55, 48, 99, 97]).toArray }) (d := { data := ([98, 55, 51, 100, 49, 57, 50, 57, 97, 97, 54, 49, 53, 57, 51, 52, 101, 54, 49, 97, 56, 55, 49, 53, 57, 54, 98, 51, 102, 51, 98, 51, 51, 51, 53, 57, 102, 52, 50, 98, 56, 49, 55, 53, 54, 48, 50, 101, 56, 57, 102, 55, 101, 48, 54, 101, 53, 102, 54, 53, 56, 97, 50, 52].append [51, 54, 54, 55, 56, 48, 55, 101, 100, 51, 48, 48, 51, 49, 52, 98, 57, 53, 99, 97, 99, 100, 100, 53, 55, 57, 102, 51, 101, 51, 51, 97, 98, 100, 102, 98, 101, 51, 53, 49, 57, 48, 57, 53, 49, 57, 97, 56, 52, 54, 100, 52, 54, 53, 99, 53, 57, 53, 56, 50, 102, 51, 50, 49]).toArray }) (by kernel_rfl) (by kernel_rfl) (by kernel_rfl) (by kernel_rfl))) ?_
          refine AllGhost.cons (gc_plain (v := iN .i64 k) (by kernel_rfl) (by decide) (by kernel_rfl) (fun _ => by kernel_rfl) (fun _ => by kernel_rfl) (fun _ _ => (by kernel_rfl))) ?_
          refine AllGhost.cons (gc_link (v := fun m => .pointer (some ⟨m, k, none⟩)) (by kernel_rfl) (by decide) (by kernel_rfl) (fun _ => by kernel_rfl) (fun _ => by kernel_rfl) (fun g _ => run_addr26 (q := g 6) (m := 4) (c := 4) (i := k) (by kernel_rfl) (by kernel_rfl) hk)) ?_
          refine AllGhost.cons (gc_reads (v := .string (tL.getD k ByteArray.empty)) 1 rfl (by kernel_rfl) (by decide) (by kernel_rfl) (fun d C h => (C 8 (h 8 (by decide)) 6 (by decide))) (by decide) (fun _ => by kernel_rfl) (fun _ => by kernel_rfl) (fun g w' hl hb => run_load1 (q := g 8) (i := k) (fun w => Tryd.isAgg9 w) (by kernel_rfl) ((by rw [hl]; exact hb.cell k : w'.cell? ⟨g 8, k, none⟩ = (psc tL)[k]?).trans (by simp [psc, List.getElem?_eq_getElem (show k < tL.length from hk)])))) ?_
          refine AllGhost.cons (gc_plain (v := .bool false) (by kernel_rfl) (by decide) (by kernel_rfl) (fun _ => by kernel_rfl) (fun _ => by kernel_rfl) (fun _ _ => run_nes (s := hL k) (t := tL.getD k ByteArray.empty) (by kernel_rfl) (by kernel_rfl) false (by rw [hL_eq k hk]; simp))) ?_
          exact AllGhost.nil
        intro g w32 g33
        have h34 := g33.gm.held
        clear g33
        generalize g 3 = u35
        generalize g 6 = u36
        generalize g 8 = u37
        clear g
        refine then_at (F := ⟨(u29 0 :: .slice (some ⟨q1, 0, none⟩) 128 128 :: iN .i64 128 :: .string aS :: u15 4 :: u15 5 :: iN .i64 k :: iN .i64 (nL.getD k 0) :: .slice (some ⟨q1, 0, none⟩) 128 128 :: iN .i64 128 :: .bool false :: u4 11 :: u4 12 :: u4 13 :: u4 14 :: u4 15 :: .slice (some ⟨q1, 0, none⟩) 128 128 :: .string aS :: .slice (some ⟨q12, 0, none⟩) 4 4 :: iN .i64 4 :: iN .i64 4 :: .bool false :: u15 22 :: u15 23 :: u15 24 :: u15 25 :: u15 26 :: u15 27 :: u15 28 :: u15 29 :: u15 30 :: u15 31 :: u15 32 :: u15 33 :: u15 34 :: u15 35 :: u15 36 :: .slice (some ⟨q26, 0, none⟩) 4 4 :: iN .i64 4 :: iN .i64 k :: .bool true :: iN .i64 k :: .pointer (some ⟨q26, k, none⟩) :: iN .i64 (nL.getD k 0) :: .string aS :: iN .i64 (nL.getD k 0) :: .string (pL k) :: .slice (some ⟨u35, 0, none⟩) 1 1 :: .string (qL k) :: .string (hL k) :: .slice (some ⟨u36, 0, none⟩) 4 4 :: iN .i64 k :: .pointer (some ⟨u37, k, none⟩) :: .string (tL.getD k ByteArray.empty) :: .bool false :: u29 55 :: List.replicate 19 un).toArray, []⟩) (by kernel_rfl) ?_
        refine wp_cond_false (by kernel_rfl) ?_
        refine wp_skip ?_
        refine block_normal ?_
        refine then_at (F := ⟨(u29 0 :: .slice (some ⟨q1, 0, none⟩) 128 128 :: iN .i64 128 :: .string aS :: u15 4 :: u15 5 :: iN .i64 k :: iN .i64 (nL.getD k 0) :: .slice (some ⟨q1, 0, none⟩) 128 128 :: iN .i64 128 :: .bool false :: u4 11 :: u4 12 :: u4 13 :: u4 14 :: u4 15 :: .slice (some ⟨q1, 0, none⟩) 128 128 :: .string aS :: .slice (some ⟨q12, 0, none⟩) 4 4 :: iN .i64 4 :: iN .i64 4 :: .bool false :: u15 22 :: u15 23 :: u15 24 :: u15 25 :: u15 26 :: u15 27 :: u15 28 :: u15 29 :: u15 30 :: u15 31 :: u15 32 :: u15 33 :: u15 34 :: u15 35 :: u15 36 :: .slice (some ⟨q26, 0, none⟩) 4 4 :: iN .i64 4 :: iN .i64 k :: .bool true :: iN .i64 k :: .pointer (some ⟨q26, k, none⟩) :: iN .i64 (nL.getD k 0) :: .string aS :: iN .i64 (nL.getD k 0) :: .string (pL k) :: .slice (some ⟨u35, 0, none⟩) 1 1 :: .string (qL k) :: .string (hL k) :: .slice (some ⟨u36, 0, none⟩) 4 4 :: iN .i64 k :: .pointer (some ⟨u37, k, none⟩) :: .string (tL.getD k ByteArray.empty) :: .bool false :: u29 55 :: List.replicate 19 un).toArray, []⟩) (by kernel_rfl) ?_
        -- region 18
        refine wl_region ?_
        refine wl_val (iN .i64 (k + 1)) (by kernel_rfl) (run_add (k := .i64) (a := k) (b := 1) (by kernel_rfl) (by kernel_rfl) (by simp only [top]; omega)) ?_
        refine wl_val (iN .i64 (k + 1)) (by kernel_rfl) (by kernel_rfl) ?_
        refine wl_nil ?_
        exact then_I ⟨fun ii => (([(0, u29 0), (6, iN .i64 k), (7, iN .i64 (nL.getD k 0)), (40, .bool true), (41, iN .i64 k), (42, .pointer (some ⟨q26, k, none⟩)), (43, iN .i64 (nL.getD k 0)), (44, .string aS), (45, iN .i64 (nL.getD k 0)), (46, .string (pL k)), (47, .slice (some ⟨u35, 0, none⟩) 1 1), (48, .string (qL k)), (49, .string (hL k)), (50, .slice (some ⟨u36, 0, none⟩) 4 4), (51, iN .i64 k), (52, .pointer (some ⟨u37, k, none⟩)), (53, .string (tL.getD k ByteArray.empty)), (54, .bool false), (55, iN .i64 (k + 1))] : List (Nat × Value)).find? (·.1 == ii)).elim undef (·.2), by kernel_rfl, h34⟩
      · rintro _ w38 ⟨u29, rfl, h39⟩
        refine wp_seq ?_
        -- region 14
        refine wl_region ?_
        refine wl_val (.bool false) (by kernel_rfl) (run_lss (k := .i64) (a := 4) (b := 4) (by kernel_rfl) (by kernel_rfl) false (by decide)) ?_
        refine wl_nil ?_
        refine then_at (F := ⟨(u29 0 :: .slice (some ⟨q1, 0, none⟩) 128 128 :: iN .i64 128 :: .string aS :: u15 4 :: u15 5 :: u29 6 :: u29 7 :: .slice (some ⟨q1, 0, none⟩) 128 128 :: iN .i64 128 :: .bool false :: u4 11 :: u4 12 :: u4 13 :: u4 14 :: u4 15 :: .slice (some ⟨q1, 0, none⟩) 128 128 :: .string aS :: .slice (some ⟨q12, 0, none⟩) 4 4 :: iN .i64 4 :: iN .i64 4 :: .bool false :: u15 22 :: u15 23 :: u15 24 :: u15 25 :: u15 26 :: u15 27 :: u15 28 :: u15 29 :: u15 30 :: u15 31 :: u15 32 :: u15 33 :: u15 34 :: u15 35 :: u15 36 :: .slice (some ⟨q26, 0, none⟩) 4 4 :: iN .i64 4 :: iN .i64 4 :: .bool false :: u29 41 :: u29 42 :: u29 43 :: u29 44 :: u29 45 :: u29 46 :: u29 47 :: u29 48 :: u29 49 :: u29 50 :: u29 51 :: u29 52 :: u29 53 :: u29 54 :: u29 55 :: List.replicate 19 un).toArray, []⟩) (by kernel_rfl) ?_
        refine wp_seq ?_
        refine wp_cond_false (by kernel_rfl) ?_
        refine wp_exit ?_
        repeat first | refine then_exit ?_ | refine block_exit ?_ | refine block_exit_ne (by decide) ?_
        refine then_at (F := ⟨(u29 0 :: .slice (some ⟨q1, 0, none⟩) 128 128 :: iN .i64 128 :: .string aS :: u15 4 :: u15 5 :: u29 6 :: u29 7 :: .slice (some ⟨q1, 0, none⟩) 128 128 :: iN .i64 128 :: .bool false :: u4 11 :: u4 12 :: u4 13 :: u4 14 :: u4 15 :: .slice (some ⟨q1, 0, none⟩) 128 128 :: .string aS :: .slice (some ⟨q12, 0, none⟩) 4 4 :: iN .i64 4 :: iN .i64 4 :: .bool false :: u15 22 :: u15 23 :: u15 24 :: u15 25 :: u15 26 :: u15 27 :: u15 28 :: u15 29 :: u15 30 :: u15 31 :: u15 32 :: u15 33 :: u15 34 :: u15 35 :: u15 36 :: .slice (some ⟨q26, 0, none⟩) 4 4 :: iN .i64 4 :: iN .i64 4 :: .bool false :: u29 41 :: u29 42 :: u29 43 :: u29 44 :: u29 45 :: u29 46 :: u29 47 :: u29 48 :: u29 49 :: u29 50 :: u29 51 :: u29 52 :: u29 53 :: u29 54 :: u29 55 :: List.replicate 19 un).toArray, []⟩) (by kernel_rfl) ?_
        refine wp_seq ?_
        -- region 19
        refine wl_region ?_
        refine wl_mks (n := 1) (m := 1) (c := psc ([{ data := #[97, 98, 99] }])) h39 9 (by kernel_rfl) (run_bs1 (u := { data := #[97, 98, 99] }) (by kernel_rfl)) ?_
        intro q40 w41 h42
        refine wl_call (v := .string dB) h42 (by kernel_rfl) enter10 #[.slice (some ⟨q40, 0, none⟩) 1 1] (by kernel_rfl) (ret_eq (shaL ([{ data := #[97, 98, 99] }]) (some ⟨q40, 0, none⟩) 1 w41 (VV.below h42.old VV.big) (parts_ofc (h42.get 0 rfl)) (by decide +kernel) (by decide)) (bytes_eq dB1_eq)) ?_
        intro w43 h44
        refine wl_call (v := .string hB) h44 (by kernel_rfl) enter12 #[.string dB] (by kernel_rfl) (ret_eq (hexc dB (by decide) w43) (bytes_eq hB_eq)) ?_
        intro w45 h46
        refine wl_val (.bool true) (by kernel_rfl) (run_eqs (s := hB) (t := { data := ([100, 100, 97, 102, 51, 53, 97, 49, 57, 51, 54, 49, 55, 97, 98, 97, 99, 99, 52, 49, 55, 51, 52, 57, 97, 101, 50, 48, 52, 49, 51, 49, 49, 50, 101, 54, 102, 97, 52, 101, 56, 57, 97, 57, 55, 101, 97, 50, 48, 97, 57, 101, 101, 101, 101, 54, 52, 98, 53, 53, 100, 51, 57, 97].append [50, 49, 57, 50, 57, 57, 50, 97, 50, 55, 52, 102, 99, 49, 97, 56, 51, 54, 98, 97, 51, 99, 50, 51, 97, 51, 102, 101, 101, 98, 98, 100, 52, 53, 52, 100, 52, 52, 50, 51, 54, 52, 51, 99, 101, 56, 48, 101, 50, 97, 57, 97, 99, 57, 52, 102, 97, 53, 52, 99, 97, 52, 57, 102]).toArray }) (by kernel_rfl) (by kernel_rfl) true (by decide +kernel)) ?_
        refine wl_val (.bool true) (by kernel_rfl) (by kernel_rfl) ?_
        refine wl_call (v := .string (ByteArray.mk (digP KS []).toArray)) h46 (by kernel_rfl) enter7 #[.slice none 0 0] (by kernel_rfl) (shaS [] none 0 w45 (VV.below h46.old VV.big) (fun i hi => by cases hi) (by decide) (by decide)) ?_
        intro w47 h48
        refine wl_mks (n := 1) (m := 1) (c := psc ([{ data := #[] }])) h48 9 (by kernel_rfl) (run_bs1 (u := { data := #[] }) (by kernel_rfl)) ?_
        intro q49 w50 h51
        refine wl_call (v := .string (ByteArray.mk (digP KS []).toArray)) h51 (by kernel_rfl) enter7 #[.slice (some ⟨q49, 0, none⟩) 1 1] (by kernel_rfl) (shaS ([{ data := #[] }]) (some ⟨q49, 0, none⟩) 1 w50 (VV.below h51.old VV.big) (parts_ofc (h51.get 0 rfl)) (by decide +kernel) (by decide)) ?_
        intro w52 h53
        refine wl_val (.bool true) (by kernel_rfl) (run_eqs (s := ByteArray.mk (digP KS []).toArray) (t := ByteArray.mk (digP KS []).toArray) (by kernel_rfl) (by kernel_rfl) true (decide_eq_true rfl)) ?_
        refine wl_val (.bool true) (by kernel_rfl) (by kernel_rfl) ?_
        refine wl_val (.bool true) (by kernel_rfl) (by kernel_rfl) ?_
        refine wl_call (v := .string (ByteArray.mk (digP KL []).toArray)) h53 (by kernel_rfl) enter10 #[.slice none 0 0] (by kernel_rfl) (shaL [] none 0 w52 (VV.below h53.old VV.big) (fun i hi => by cases hi) (by decide) (by decide)) ?_
        intro w54 h55
        refine wl_mks (n := 2) (m := 2) (c := psc ([{ data := #[] }, { data := #[] }])) h55 9 (by kernel_rfl) (run_bs2 (u := { data := #[] }) (v := { data := #[] }) (by kernel_rfl) (by kernel_rfl)) ?_
        intro q56 w57 h58
        refine wl_call (v := .string (ByteArray.mk (digP KL []).toArray)) h58 (by kernel_rfl) enter10 #[.slice (some ⟨q56, 0, none⟩) 2 2] (by kernel_rfl) (shaL ([{ data := #[] }, { data := #[] }]) (some ⟨q56, 0, none⟩) 2 w57 (VV.below h58.old VV.big) (parts_ofc (h58.get 0 rfl)) (by decide +kernel) (by decide)) ?_
        intro w59 h60
        refine wl_val (.bool true) (by kernel_rfl) (run_eqs (s := ByteArray.mk (digP KL []).toArray) (t := ByteArray.mk (digP KL []).toArray) (by kernel_rfl) (by kernel_rfl) true (decide_eq_true rfl)) ?_
        refine wl_val (.bool true) (by kernel_rfl) (by kernel_rfl) ?_
        refine wl_val (.bool true) (by kernel_rfl) (by kernel_rfl) ?_
        refine wl_call (v := .bool true) h60 (by kernel_rfl) enter9 #[] (by kernel_rfl) (works w59 (VV.below h60.old VV.big)) ?_
        intro w61 h62
        refine wl_val (.bool true) (by kernel_rfl) (by kernel_rfl) ?_
        refine wl_val (.bool true) (by kernel_rfl) (by kernel_rfl) ?_
        refine wl_nil ?_
        refine then_at (F := ⟨(.bool true :: .slice (some ⟨q1, 0, none⟩) 128 128 :: iN .i64 128 :: .string aS :: u15 4 :: u15 5 :: u29 6 :: u29 7 :: .slice (some ⟨q1, 0, none⟩) 128 128 :: iN .i64 128 :: .bool false :: u4 11 :: u4 12 :: u4 13 :: u4 14 :: u4 15 :: .slice (some ⟨q1, 0, none⟩) 128 128 :: .string aS :: .slice (some ⟨q12, 0, none⟩) 4 4 :: iN .i64 4 :: iN .i64 4 :: .bool false :: u15 22 :: u15 23 :: u15 24 :: u15 25 :: u15 26 :: u15 27 :: u15 28 :: u15 29 :: u15 30 :: u15 31 :: u15 32 :: u15 33 :: u15 34 :: u15 35 :: u15 36 :: .slice (some ⟨q26, 0, none⟩) 4 4 :: iN .i64 4 :: iN .i64 4 :: .bool false :: u29 41 :: u29 42 :: u29 43 :: u29 44 :: u29 45 :: u29 46 :: u29 47 :: u29 48 :: u29 49 :: u29 50 :: u29 51 :: u29 52 :: u29 53 :: u29 54 :: u29 55 :: .slice (some ⟨q40, 0, none⟩) 1 1 :: .string dB :: .string hB :: .bool true :: .bool true :: .string (ByteArray.mk (digP KS []).toArray) :: .slice (some ⟨q49, 0, none⟩) 1 1 :: .string (ByteArray.mk (digP KS []).toArray) :: .bool true :: .bool true :: .bool true :: .string (ByteArray.mk (digP KL []).toArray) :: .slice (some ⟨q56, 0, none⟩) 2 2 :: .string (ByteArray.mk (digP KL []).toArray) :: .bool true :: .bool true :: .bool true :: .bool true :: .bool true :: List.replicate 0 un).toArray, []⟩) (by kernel_rfl) ?_
        refine wp_ret ?_
        repeat first | refine then_ret ?_ | refine block_ret ?_
        exact bodyPost_ret (v := .bool true) (by kernel_rfl) rfl ⟨rfl, h62.old⟩
end Go.Proofs.YtdhgjnfdbhidcaaDoor
