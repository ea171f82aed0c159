/-
  The keys.
-/
import Derived.Test.YthljhhhjdajfhaaA2
namespace Go.Proofs.Ythljhhhjdajfhaa
open Go.RowKit

def ck (kw : List (BitVec 32)) (k : Nat) : List (BitVec 32) := kw.take (4 * k) ++ List.replicate (60 - 4 * k) 0
theorem ck_len (kw : List (BitVec 32)) (k : Nat) (h : kw.length = 60) (hk : k ≤ 15) : (ck kw k).length = 60 := by unfold ck; rw [List.length_append, List.length_take, List.length_replicate, h]; omega
theorem ck_next (kw : List (BitVec 32)) (k : Nat) (h : kw.length = 60) (hk : k < 15) : (ck kw k).take (4 * k) ++ [kw.getD (4 * k) 0, kw.getD (4 * k + 1) 0, kw.getD (4 * k + 2) 0, kw.getD (4 * k + 3) 0] ++ (ck kw k).drop (4 * k + 4) = ck kw (k + 1) := by
  have e1 : (kw.take (4 * k)).length = 4 * k := by rw [List.length_take, h]; omega
  have g : ∀ i, i < 60 → kw[i]? = some (kw.getD i 0) := fun i hi => by rw [List.getD_eq_getElem?_getD, List.getElem?_eq_getElem (by omega)]; rfl
  have e2 : (ck kw k).take (4 * k) = kw.take (4 * k) := by unfold ck; rw [List.take_append_of_le_length (by omega), List.take_take, Nat.min_self]
  have e3 : (ck kw k).drop (4 * k + 4) = List.replicate (60 - 4 * (k + 1)) 0 := by
    unfold ck
    rw [List.drop_append, List.drop_eq_nil_of_le (by omega), List.nil_append, e1, List.drop_replicate]
    congr 1
    omega
  have e4 : kw.take (4 * (k + 1)) = kw.take (4 * k) ++ [kw.getD (4 * k) 0, kw.getD (4 * k + 1) 0, kw.getD (4 * k + 2) 0, kw.getD (4 * k + 3) 0] := by
    rw [show 4 * (k + 1) = 4 * k + 1 + 1 + 1 + 1 by omega, List.take_add_one, List.take_add_one, List.take_add_one, List.take_add_one, g _ (by omega), g _ (by omega), g _ (by omega), g _ (by omega)]
    simp
  rw [e2, e3]
  unfold ck
  rw [e4]
theorem cc_part (kw : List (BitVec 32)) (k : Nat) (h : kw.length = 60) (hk : k < 15) :
    ((cc (ck kw k)).toList.take (256 + k * 4) ++ (qc (rk kw k)).toList ++ (cc (ck kw k)).toList.drop (256 + k * 4 + (qc (rk kw k)).size)).toArray = cc (ck kw (k + 1)) := by
  have hb : (boxL.map by8).length = 256 := by rw [List.length_map, boxL_len]
  rw [← ck_next kw k h hk, qc_size]
  unfold cc qc wc rk
  congr 1
  rw [List.take_append, List.drop_append, hb, List.take_of_length_le (by omega), List.drop_eq_nil_of_le (by omega), List.nil_append, show 256 + k * 4 - 256 = 4 * k by omega, show 256 + k * 4 + 4 - 256 = 4 * k + 4 by omega, List.map_append, List.map_append, List.map_take, List.map_drop]
  simp only [List.append_assoc]
theorem pw_len {l : List (BitVec 32)} {n m N : Nat} (h : l.length = n) (hn : n + m = N) : (l ++ List.replicate m 0).length = N := by rw [List.length_append, List.length_replicate, h, hn]
theorem sch_a (s : ByteArray) (k : Nat) (h : (8 + k) % 8 = 0) : sch s (k + 1) = sch s k ++ [(sch s k).getD (8 + k - 8) 0 ^^^ bxW (rlW ((sch s k).getD (8 + k - 1) 0) 8) (rlW ((sch s k).getD (8 + k - 1) 0) 8) (rlW ((sch s k).getD (8 + k - 1) 0) 8) (rlW ((sch s k).getD (8 + k - 1) 0) 8) ^^^ 1#32 <<< (24 + (8 + k) / 8 - 1)] := by rw [sch, tW, mW, if_pos h, if_pos h]
theorem sch_b (s : ByteArray) (k : Nat) (h : ¬ (8 + k) % 8 = 0) (h4 : (8 + k) % 8 = 4) : sch s (k + 1) = sch s k ++ [(sch s k).getD (8 + k - 8) 0 ^^^ bxW ((sch s k).getD (8 + k - 1) 0) ((sch s k).getD (8 + k - 1) 0) ((sch s k).getD (8 + k - 1) 0) ((sch s k).getD (8 + k - 1) 0) ^^^ 0#32] := by rw [sch, tW, mW, if_neg h, if_pos h4, if_neg h]
theorem sch_c (s : ByteArray) (k : Nat) (h : ¬ (8 + k) % 8 = 0) (h4 : ¬ (8 + k) % 8 = 4) : sch s (k + 1) = sch s k ++ [(sch s k).getD (8 + k - 8) 0 ^^^ (sch s k).getD (8 + k - 1) 0 ^^^ 0#32] := by rw [sch, tW, mW, if_neg h, if_neg h4, if_neg h]

set_option linter.unusedVariables false in
set_option maxRecDepth 100000 in
set_option maxHeartbeats 2000000 in
theorem newCipher_any (s : ByteArray) (hs : s.size = 32) (w : World) :
    Calls Try.prog 17 #[.string s] w fun e w' => ∃ q, e = .returned (.pointer (some ⟨q, 0, none⟩)) ∧ w.heap.size ≤ q ∧ Blk w' q 59 (cc (kwS s)) ∧ Below w.heap.size w w' := by
  have H0 := HA.start w
  go_enter Try.func17, Try.ntmps17
  refine wp_seq ?_
  -- region 0
  refine wl_region ?_
  refine wl_val (.pointer none) (by kernel_rfl) (by kernel_rfl) ?_
  refine wl_nil ?_
  refine then_at (F := ⟨(.string s :: un :: .pointer none :: List.replicate 91 un).toArray, []⟩) (by kernel_rfl) ?_
  refine wp_seq ?_
  -- region 1
  refine wl_region ?_
  refine wl_call (v := .agg (bc boxL)) H0 (by kernel_rfl) enter26 #[] (by kernel_rfl) (theBox_any w) ?_
  intro w1 h2
  refine wl_val (.agg (cc (List.replicate 60 (0 : BitVec 32)))) (by kernel_rfl) (by kernel_rfl) ?_
  refine wl_make h2 59 (by kernel_rfl) (run_box59 (c := cc (List.replicate 60 (0 : BitVec 32))) (by kernel_rfl)) ?_
  intro q3 w4 h5
  refine wl_val (.pointer (some ⟨q3, 0, none⟩)) (by kernel_rfl) (by kernel_rfl) ?_
  refine wl_nil ?_
  refine then_at (F := ⟨(.string s :: un :: .pointer none :: pt q3 :: un :: un :: un :: un :: un :: un :: .agg (bc boxL) :: .agg (cc (List.replicate 60 (0 : BitVec 32))) :: pt q3 :: List.replicate 81 un).toArray, []⟩) (by kernel_rfl) ?_
  refine wp_seq ?_
  -- region 2
  refine wl_region ?_
  refine wl_make h5 60 (by kernel_rfl) run_alloc60 ?_
  intro q6 w7 h8
  refine wl_nil ?_
  refine then_at (F := ⟨(.string s :: un :: .pointer none :: pt q3 :: pt q6 :: un :: un :: un :: un :: un :: .agg (bc boxL) :: .agg (cc (List.replicate 60 (0 : BitVec 32))) :: pt q3 :: List.replicate 81 un).toArray, []⟩) (by kernel_rfl) ?_
  refine wp_seq ?_
  refine wp_seq ?_
  -- region 3
  refine wl_region ?_
  refine wl_val (iN .i64 0) (by kernel_rfl) (by kernel_rfl) ?_
  refine wl_nil ?_
  refine then_at (F := ⟨(.string s :: un :: .pointer none :: pt q3 :: pt q6 :: un :: un :: un :: un :: un :: .agg (bc boxL) :: .agg (cc (List.replicate 60 (0 : BitVec 32))) :: pt q3 :: iN .i64 0 :: List.replicate 80 un).toArray, []⟩) (by kernel_rfl) ?_
  refine wp_block ?_
  refine wp_count (fun k A w' => ∃ u9 : Nat → Value, A = ⟨(.string s :: un :: .pointer none :: pt q3 :: pt q6 :: u9 5 :: un :: un :: un :: un :: .agg (bc boxL) :: .agg (cc (List.replicate 60 (0 : BitVec 32))) :: pt q3 :: iN .i64 k :: u9 14 :: u9 15 :: u9 16 :: u9 17 :: u9 18 :: u9 19 :: u9 20 :: u9 21 :: u9 22 :: u9 23 :: u9 24 :: u9 25 :: u9 26 :: List.replicate 67 un).toArray, []⟩ ∧ HA w [(q6, 60, wc .u32 (fst8 s k ++ List.replicate (60 - k) 0)), (q3, 59, cc (List.replicate 60 (0 : BitVec 32)))] w') 8 ?_ ?_ ?_
  · exact ⟨fun ii => (([(5, undef), (14, undef), (15, undef), (16, undef), (17, undef), (18, undef), (19, undef), (20, undef), (21, undef), (22, undef), (23, undef), (24, undef), (25, undef), (26, undef)] : List (Nat × Value)).find? (·.1 == ii)).elim undef (·.2), by kernel_rfl, h8⟩
  · rintro k hk _ w10 ⟨u9, rfl, h11⟩
    refine wp_seq ?_
    -- region 4
    refine wl_region ?_
    refine wl_val (.bool true) (by kernel_rfl) (run_lss (k := .i64) (a := k) (b := 8) (by kernel_rfl) (by kernel_rfl) true (decide_eq_true (by omega))) ?_
    refine wl_nil ?_
    refine then_at (F := ⟨(.string s :: un :: .pointer none :: pt q3 :: pt q6 :: u9 5 :: un :: un :: un :: un :: .agg (bc boxL) :: .agg (cc (List.replicate 60 (0 : BitVec 32))) :: pt q3 :: iN .i64 k :: .bool true :: u9 15 :: u9 16 :: u9 17 :: u9 18 :: u9 19 :: u9 20 :: u9 21 :: u9 22 :: u9 23 :: u9 24 :: u9 25 :: u9 26 :: List.replicate 67 un).toArray, []⟩) (by kernel_rfl) ?_
    refine wp_seq ?_
    refine wp_cond_true (by kernel_rfl) ?_
    refine wp_skip ?_
    refine then_at (F := ⟨(.string s :: un :: .pointer none :: pt q3 :: pt q6 :: u9 5 :: un :: un :: un :: un :: .agg (bc boxL) :: .agg (cc (List.replicate 60 (0 : BitVec 32))) :: pt q3 :: iN .i64 k :: .bool true :: u9 15 :: u9 16 :: u9 17 :: u9 18 :: u9 19 :: u9 20 :: u9 21 :: u9 22 :: u9 23 :: u9 24 :: u9 25 :: u9 26 :: List.replicate 67 un).toArray, []⟩) (by kernel_rfl) ?_
    refine wp_seq ?_
    refine wp_block ?_
    refine wp_seq ?_
    -- region 5
    refine wl_region ?_
    refine wl_val (iN .i64 k) (by kernel_rfl) (by kernel_rfl) ?_
    refine wl_val (iN .i64 k) (by kernel_rfl) (by kernel_rfl) ?_
    refine wl_nil ?_
    refine then_at (F := ⟨(.string s :: un :: .pointer none :: pt q3 :: pt q6 :: iN .i64 k :: un :: un :: un :: un :: .agg (bc boxL) :: .agg (cc (List.replicate 60 (0 : BitVec 32))) :: pt q3 :: iN .i64 k :: .bool true :: iN .i64 k :: u9 16 :: u9 17 :: u9 18 :: u9 19 :: u9 20 :: u9 21 :: u9 22 :: u9 23 :: u9 24 :: u9 25 :: u9 26 :: List.replicate 67 un).toArray, []⟩) (by kernel_rfl) ?_
    -- region 6
    refine wl_region ?_
    refine wl_val (iN .i64 k) (by kernel_rfl) (by kernel_rfl) ?_
    refine wl_val (.string s) (by kernel_rfl) (by kernel_rfl) ?_
    refine wl_val (iN .i64 k) (by kernel_rfl) (by kernel_rfl) ?_
    refine wl_val (iN .i64 (4 * k)) (by kernel_rfl) (run_mul (k := .i64) (a := 4) (b := k) (by kernel_rfl) (by kernel_rfl) (by simp only [top]; omega)) ?_
    refine wl_val (iN .i64 k) (by kernel_rfl) (by kernel_rfl) ?_
    refine wl_val (iN .i64 (4 * k)) (by kernel_rfl) (run_mul (k := .i64) (a := 4) (b := k) (by kernel_rfl) (by kernel_rfl) (by simp only [top]; omega)) ?_
    refine wl_val (iN .i64 ((4 * k) + 4)) (by kernel_rfl) (run_add (k := .i64) (a := 4 * k) (b := 4) (by kernel_rfl) (by kernel_rfl) (by simp only [top]; omega)) ?_
    refine wl_val (.string (s.extract (4 * k) ((4 * k) + 4))) (by kernel_rfl) (run_cut2 (s := s) (a := 4 * k) (b := (4 * k) + 4) (by kernel_rfl) (by kernel_rfl) (by kernel_rfl) (by omega) (by omega)) ?_
    refine wl_call (v := bv .u32 (wS (s.extract (4 * k) ((4 * k) + 4)))) h11 (by kernel_rfl) enter27 #[.string (s.extract (4 * k) ((4 * k) + 4))] (by kernel_rfl) (wordOf_any (s.extract (4 * k) ((4 * k) + 4)) (ext4 s (4 * k) (by omega)) w10) ?_
    intro w12 h13
    refine wl_val (.pointer (some ⟨q6, k, none⟩)) (by kernel_rfl) (addr_eq (by omega) (run_addr_k (k := .i64) (q := q6) (o := 0) (a := k) (m := 1) Try.underlying60 (fun w => Try.sizeOf38 w) (by kernel_rfl) (by kernel_rfl) (by omega))) ?_
    refine wl_put (k := .u32) (z := (((wS (s.extract (4 * k) ((4 * k) + 4))).toNat : Nat) : Int)) h13 0 rfl k (by rw [wc_size, (pw_len (N := 60) (fst8_len s k) (by omega))]; omega) (by kernel_rfl) (fun w => Try.sizeOf38 w) (by kernel_rfl) (by kernel_rfl) ?_
    intro w14 h15
    have h16 : HA w [(q6, 60, wc .u32 ((fst8 s k ++ [wS (s.extract (4 * k) ((4 * k) + 4))]) ++ List.replicate (60 - (k + 1)) 0)), (q3, 59, cc (List.replicate 60 (0 : BitVec 32)))] w14 := by
      have e : (wc .u32 (fst8 s k ++ List.replicate (60 - k) 0)).setIfInBounds k (.int .u32 (((wS (s.extract (4 * k) ((4 * k) + 4))).toNat : Nat) : Int)) = wc .u32 ((fst8 s k ++ [wS (s.extract (4 * k) ((4 * k) + 4))]) ++ List.replicate (60 - (k + 1)) 0) := (padw_put _ _ _ _ _ (fst8_len s k) (by omega))
      rw [← e]; exact h15
    clear h15
    refine wl_nil ?_
    refine block_normal ?_
    refine then_at (F := ⟨(.string s :: un :: .pointer none :: pt q3 :: pt q6 :: iN .i64 k :: un :: un :: un :: un :: .agg (bc boxL) :: .agg (cc (List.replicate 60 (0 : BitVec 32))) :: pt q3 :: iN .i64 k :: .bool true :: iN .i64 k :: iN .i64 k :: .string s :: iN .i64 k :: iN .i64 (4 * k) :: iN .i64 k :: iN .i64 (4 * k) :: iN .i64 ((4 * k) + 4) :: .string (s.extract (4 * k) ((4 * k) + 4)) :: bv .u32 (wS (s.extract (4 * k) ((4 * k) + 4))) :: .pointer (some ⟨q6, k, none⟩) :: u9 26 :: List.replicate 67 un).toArray, []⟩) (by kernel_rfl) ?_
    -- region 7
    refine wl_region ?_
    refine wl_val (iN .i64 (k + 1)) (by kernel_rfl) (run_add (k := .i64) (a := k) (b := 1) (by kernel_rfl) (by kernel_rfl) (by simp only [top]; omega)) ?_
    refine wl_val (iN .i64 (k + 1)) (by kernel_rfl) (by kernel_rfl) ?_
    refine wl_nil ?_
    exact then_I ⟨fun ii => (([(5, iN .i64 k), (14, .bool true), (15, iN .i64 k), (16, iN .i64 k), (17, .string s), (18, iN .i64 k), (19, iN .i64 (4 * k)), (20, iN .i64 k), (21, iN .i64 (4 * k)), (22, iN .i64 ((4 * k) + 4)), (23, .string (s.extract (4 * k) ((4 * k) + 4))), (24, bv .u32 (wS (s.extract (4 * k) ((4 * k) + 4)))), (25, .pointer (some ⟨q6, k, none⟩)), (26, iN .i64 (k + 1))] : List (Nat × Value)).find? (·.1 == ii)).elim undef (·.2), by kernel_rfl, h16⟩
  · rintro _ w17 ⟨u9, rfl, h18⟩
    refine wp_seq ?_
    -- region 4
    refine wl_region ?_
    refine wl_val (.bool false) (by kernel_rfl) (run_lss (k := .i64) (a := 8) (b := 8) (by kernel_rfl) (by kernel_rfl) false (by decide)) ?_
    refine wl_nil ?_
    refine then_at (F := ⟨(.string s :: un :: .pointer none :: pt q3 :: pt q6 :: u9 5 :: un :: un :: un :: un :: .agg (bc boxL) :: .agg (cc (List.replicate 60 (0 : BitVec 32))) :: pt q3 :: iN .i64 8 :: .bool false :: u9 15 :: u9 16 :: u9 17 :: u9 18 :: u9 19 :: u9 20 :: u9 21 :: u9 22 :: u9 23 :: u9 24 :: u9 25 :: u9 26 :: List.replicate 67 un).toArray, []⟩) (by kernel_rfl) ?_
    refine wp_seq ?_
    refine wp_cond_false (by kernel_rfl) ?_
    refine wp_exit ?_
    repeat first | refine then_exit ?_ | refine block_exit ?_ | refine block_exit_ne (by decide) ?_
    refine then_at (F := ⟨(.string s :: un :: .pointer none :: pt q3 :: pt q6 :: u9 5 :: un :: un :: un :: un :: .agg (bc boxL) :: .agg (cc (List.replicate 60 (0 : BitVec 32))) :: pt q3 :: iN .i64 8 :: .bool false :: u9 15 :: u9 16 :: u9 17 :: u9 18 :: u9 19 :: u9 20 :: u9 21 :: u9 22 :: u9 23 :: u9 24 :: u9 25 :: u9 26 :: List.replicate 67 un).toArray, []⟩) (by kernel_rfl) ?_
    refine wp_seq ?_
    refine wp_seq ?_
    -- region 8
    refine wl_region ?_
    refine wl_val (iN .i64 8) (by kernel_rfl) (by kernel_rfl) ?_
    refine wl_nil ?_
    refine then_at (F := ⟨(.string s :: un :: .pointer none :: pt q3 :: pt q6 :: u9 5 :: iN .i64 8 :: un :: un :: un :: .agg (bc boxL) :: .agg (cc (List.replicate 60 (0 : BitVec 32))) :: pt q3 :: iN .i64 8 :: .bool false :: u9 15 :: u9 16 :: u9 17 :: u9 18 :: u9 19 :: u9 20 :: u9 21 :: u9 22 :: u9 23 :: u9 24 :: u9 25 :: u9 26 :: List.replicate 67 un).toArray, []⟩) (by kernel_rfl) ?_
    refine wp_block ?_
    refine wp_count (fun k A w' => ∃ u19 : Nat → Value, A = ⟨(.string s :: un :: .pointer none :: pt q3 :: pt q6 :: u9 5 :: iN .i64 (8 + k) :: u19 7 :: u19 8 :: un :: .agg (bc boxL) :: .agg (cc (List.replicate 60 (0 : BitVec 32))) :: pt q3 :: iN .i64 8 :: .bool false :: u9 15 :: u9 16 :: u9 17 :: u9 18 :: u9 19 :: u9 20 :: u9 21 :: u9 22 :: u9 23 :: u9 24 :: u9 25 :: u9 26 :: u19 27 :: u19 28 :: u19 29 :: u19 30 :: u19 31 :: u19 32 :: u19 33 :: u19 34 :: u19 35 :: u19 36 :: u19 37 :: u19 38 :: u19 39 :: u19 40 :: u19 41 :: u19 42 :: u19 43 :: u19 44 :: u19 45 :: u19 46 :: u19 47 :: u19 48 :: u19 49 :: u19 50 :: u19 51 :: u19 52 :: u19 53 :: u19 54 :: u19 55 :: u19 56 :: u19 57 :: u19 58 :: u19 59 :: u19 60 :: u19 61 :: u19 62 :: u19 63 :: List.replicate 30 un).toArray, []⟩ ∧ HA w [(q6, 60, wc .u32 (sch s k ++ List.replicate (52 - k) 0)), (q3, 59, cc (List.replicate 60 (0 : BitVec 32)))] w') 52 ?_ ?_ ?_
    · exact ⟨fun ii => (([(7, undef), (8, undef), (27, undef), (28, undef), (29, undef), (30, undef), (31, undef), (32, undef), (33, undef), (34, undef), (35, undef), (36, undef), (37, undef), (38, undef), (39, undef), (40, undef), (41, undef), (42, undef), (43, undef), (44, undef), (45, undef), (46, undef), (47, undef), (48, undef), (49, undef), (50, undef), (51, undef), (52, undef), (53, undef), (54, undef), (55, undef), (56, undef), (57, undef), (58, undef), (59, undef), (60, undef), (61, undef), (62, undef), (63, undef)] : List (Nat × Value)).find? (·.1 == ii)).elim undef (·.2), by kernel_rfl, h18⟩
    · rintro k hk _ w20 ⟨u19, rfl, h21⟩
      refine wp_seq ?_
      refine wp_seq ?_
      -- region 9
      refine wl_region ?_
      refine wl_val (iN .i64 (8 + k)) (by kernel_rfl) (by kernel_rfl) ?_
      refine wl_val (.bool true) (by kernel_rfl) (run_lss (k := .i64) (a := 8 + k) (b := 60) (by kernel_rfl) (by kernel_rfl) true (decide_eq_true (by omega))) ?_
      refine wl_nil ?_
      refine then_at (F := ⟨(.string s :: un :: .pointer none :: pt q3 :: pt q6 :: u9 5 :: iN .i64 (8 + k) :: u19 7 :: u19 8 :: un :: .agg (bc boxL) :: .agg (cc (List.replicate 60 (0 : BitVec 32))) :: pt q3 :: iN .i64 8 :: .bool false :: u9 15 :: u9 16 :: u9 17 :: u9 18 :: u9 19 :: u9 20 :: u9 21 :: u9 22 :: u9 23 :: u9 24 :: u9 25 :: u9 26 :: iN .i64 (8 + k) :: .bool true :: u19 29 :: u19 30 :: u19 31 :: u19 32 :: u19 33 :: u19 34 :: u19 35 :: u19 36 :: u19 37 :: u19 38 :: u19 39 :: u19 40 :: u19 41 :: u19 42 :: u19 43 :: u19 44 :: u19 45 :: u19 46 :: u19 47 :: u19 48 :: u19 49 :: u19 50 :: u19 51 :: u19 52 :: u19 53 :: u19 54 :: u19 55 :: u19 56 :: u19 57 :: u19 58 :: u19 59 :: u19 60 :: u19 61 :: u19 62 :: u19 63 :: List.replicate 30 un).toArray, []⟩) (by kernel_rfl) ?_
      refine wp_cond_true (by kernel_rfl) ?_
      refine wp_skip ?_
      refine then_at (F := ⟨(.string s :: un :: .pointer none :: pt q3 :: pt q6 :: u9 5 :: iN .i64 (8 + k) :: u19 7 :: u19 8 :: un :: .agg (bc boxL) :: .agg (cc (List.replicate 60 (0 : BitVec 32))) :: pt q3 :: iN .i64 8 :: .bool false :: u9 15 :: u9 16 :: u9 17 :: u9 18 :: u9 19 :: u9 20 :: u9 21 :: u9 22 :: u9 23 :: u9 24 :: u9 25 :: u9 26 :: iN .i64 (8 + k) :: .bool true :: u19 29 :: u19 30 :: u19 31 :: u19 32 :: u19 33 :: u19 34 :: u19 35 :: u19 36 :: u19 37 :: u19 38 :: u19 39 :: u19 40 :: u19 41 :: u19 42 :: u19 43 :: u19 44 :: u19 45 :: u19 46 :: u19 47 :: u19 48 :: u19 49 :: u19 50 :: u19 51 :: u19 52 :: u19 53 :: u19 54 :: u19 55 :: u19 56 :: u19 57 :: u19 58 :: u19 59 :: u19 60 :: u19 61 :: u19 62 :: u19 63 :: List.replicate 30 un).toArray, []⟩) (by kernel_rfl) ?_
      refine wp_seq ?_
      refine wp_block ?_
      refine wp_seq ?_
      -- region 11
      refine wl_region ?_
      refine wl_val (iN .i64 (8 + k)) (by kernel_rfl) (by kernel_rfl) ?_
      refine wl_val (iN .i64 ((8 + k) - 1)) (by kernel_rfl) (run_sub (k := .i64) (a := 8 + k) (b := 1) (by kernel_rfl) (by kernel_rfl) (by omega) (by simp only [top]; omega)) ?_
      refine wl_val (.pointer (some ⟨q6, (8 + k) - 1, none⟩)) (by kernel_rfl) (addr_eq (by omega) (run_addr_k (k := .i64) (q := q6) (o := 0) (a := (8 + k) - 1) (m := 1) Try.underlying60 (fun w => Try.sizeOf38 w) (by kernel_rfl) (by kernel_rfl) (by omega))) ?_
      refine wl_val (bv .u32 ((sch s k).getD ((8 + k) - 1) 0)) (by kernel_rfl) (run_load1 (fun w => Try.isAgg38 w) (by kernel_rfl) (((h21.get 0 rfl).cell ((8 + k) - 1)).trans (padw_get _ _ _ (by rw [sch_len]; omega)))) ?_
      refine wl_val (bv .u32 ((sch s k).getD ((8 + k) - 1) 0)) (by kernel_rfl) (by kernel_rfl) ?_
      refine wl_val (bv .u32 0#32) (by kernel_rfl) (by kernel_rfl) ?_
      refine wl_nil ?_
      refine then_at (F := ⟨(.string s :: un :: .pointer none :: pt q3 :: pt q6 :: u9 5 :: iN .i64 (8 + k) :: bv .u32 ((sch s k).getD ((8 + k) - 1) 0) :: bv .u32 0#32 :: un :: .agg (bc boxL) :: .agg (cc (List.replicate 60 (0 : BitVec 32))) :: pt q3 :: iN .i64 8 :: .bool false :: u9 15 :: u9 16 :: u9 17 :: u9 18 :: u9 19 :: u9 20 :: u9 21 :: u9 22 :: u9 23 :: u9 24 :: u9 25 :: u9 26 :: iN .i64 (8 + k) :: .bool true :: u19 29 :: u19 30 :: iN .i64 (8 + k) :: iN .i64 ((8 + k) - 1) :: .pointer (some ⟨q6, (8 + k) - 1, none⟩) :: bv .u32 ((sch s k).getD ((8 + k) - 1) 0) :: u19 35 :: u19 36 :: u19 37 :: u19 38 :: u19 39 :: u19 40 :: u19 41 :: u19 42 :: u19 43 :: u19 44 :: u19 45 :: u19 46 :: u19 47 :: u19 48 :: u19 49 :: u19 50 :: u19 51 :: u19 52 :: u19 53 :: u19 54 :: u19 55 :: u19 56 :: u19 57 :: u19 58 :: u19 59 :: u19 60 :: u19 61 :: u19 62 :: u19 63 :: List.replicate 30 un).toArray, []⟩) (by kernel_rfl) ?_
      refine wp_seq ?_
      refine wp_seq ?_
      -- region 12
      refine wl_region ?_
      refine wl_val (iN .i64 (8 + k)) (by kernel_rfl) (by kernel_rfl) ?_
      refine wl_val (iN .i64 ((8 + k) % 8)) (by kernel_rfl) (run_rem (k := .i64) (a := 8 + k) (b := 8) (by kernel_rfl) (by kernel_rfl) (by omega)) ?_
      refine wl_nil ?_
      refine then_at (F := ⟨(.string s :: un :: .pointer none :: pt q3 :: pt q6 :: u9 5 :: iN .i64 (8 + k) :: bv .u32 ((sch s k).getD ((8 + k) - 1) 0) :: bv .u32 0#32 :: un :: .agg (bc boxL) :: .agg (cc (List.replicate 60 (0 : BitVec 32))) :: pt q3 :: iN .i64 8 :: .bool false :: u9 15 :: u9 16 :: u9 17 :: u9 18 :: u9 19 :: u9 20 :: u9 21 :: u9 22 :: u9 23 :: u9 24 :: u9 25 :: u9 26 :: iN .i64 (8 + k) :: .bool true :: u19 29 :: u19 30 :: iN .i64 (8 + k) :: iN .i64 ((8 + k) - 1) :: .pointer (some ⟨q6, (8 + k) - 1, none⟩) :: bv .u32 ((sch s k).getD ((8 + k) - 1) 0) :: iN .i64 (8 + k) :: iN .i64 ((8 + k) % 8) :: u19 37 :: u19 38 :: u19 39 :: u19 40 :: u19 41 :: u19 42 :: u19 43 :: u19 44 :: u19 45 :: u19 46 :: u19 47 :: u19 48 :: u19 49 :: u19 50 :: u19 51 :: u19 52 :: u19 53 :: u19 54 :: u19 55 :: u19 56 :: u19 57 :: u19 58 :: u19 59 :: u19 60 :: u19 61 :: u19 62 :: u19 63 :: List.replicate 30 un).toArray, []⟩) (by kernel_rfl) ?_
      refine wp_block ?_
      refine wp_seq ?_
      refine wp_block ?_
      refine wp_seq ?_
      refine wp_block ?_
      refine wp_seq ?_
      refine wp_seq ?_
      refine wp_seq ?_
      by_cases hc : (8 + k) % 8 = 0
      · -- region 13
        refine wl_region ?_
        refine wl_val (.bool true) (by kernel_rfl) (run_eqi (k := .i64) (a := (8 + k) % 8) (b := 0) (by kernel_rfl) (by kernel_rfl) true (decide_eq_true hc)) ?_
        refine wl_val (.bool true) (by kernel_rfl) (by kernel_rfl) ?_
        refine wl_nil ?_
        refine then_at (F := ⟨(.string s :: un :: .pointer none :: pt q3 :: pt q6 :: u9 5 :: iN .i64 (8 + k) :: bv .u32 ((sch s k).getD ((8 + k) - 1) 0) :: bv .u32 0#32 :: un :: .agg (bc boxL) :: .agg (cc (List.replicate 60 (0 : BitVec 32))) :: pt q3 :: iN .i64 8 :: .bool false :: u9 15 :: u9 16 :: u9 17 :: u9 18 :: u9 19 :: u9 20 :: u9 21 :: u9 22 :: u9 23 :: u9 24 :: u9 25 :: u9 26 :: iN .i64 (8 + k) :: .bool true :: u19 29 :: u19 30 :: iN .i64 (8 + k) :: iN .i64 ((8 + k) - 1) :: .pointer (some ⟨q6, (8 + k) - 1, none⟩) :: bv .u32 ((sch s k).getD ((8 + k) - 1) 0) :: iN .i64 (8 + k) :: iN .i64 ((8 + k) % 8) :: .bool true :: .bool true :: u19 39 :: u19 40 :: u19 41 :: u19 42 :: u19 43 :: u19 44 :: u19 45 :: u19 46 :: u19 47 :: u19 48 :: u19 49 :: u19 50 :: u19 51 :: u19 52 :: u19 53 :: u19 54 :: u19 55 :: u19 56 :: u19 57 :: u19 58 :: u19 59 :: u19 60 :: u19 61 :: u19 62 :: u19 63 :: List.replicate 30 un).toArray, []⟩) (by kernel_rfl) ?_
        refine wp_cond_true (by kernel_rfl) ?_
        refine wp_exit ?_
        repeat first | refine then_exit ?_ | refine block_exit ?_ | refine block_exit_ne (by decide) ?_
        refine then_at (F := ⟨(.string s :: un :: .pointer none :: pt q3 :: pt q6 :: u9 5 :: iN .i64 (8 + k) :: bv .u32 ((sch s k).getD ((8 + k) - 1) 0) :: bv .u32 0#32 :: un :: .agg (bc boxL) :: .agg (cc (List.replicate 60 (0 : BitVec 32))) :: pt q3 :: iN .i64 8 :: .bool false :: u9 15 :: u9 16 :: u9 17 :: u9 18 :: u9 19 :: u9 20 :: u9 21 :: u9 22 :: u9 23 :: u9 24 :: u9 25 :: u9 26 :: iN .i64 (8 + k) :: .bool true :: u19 29 :: u19 30 :: iN .i64 (8 + k) :: iN .i64 ((8 + k) - 1) :: .pointer (some ⟨q6, (8 + k) - 1, none⟩) :: bv .u32 ((sch s k).getD ((8 + k) - 1) 0) :: iN .i64 (8 + k) :: iN .i64 ((8 + k) % 8) :: .bool true :: .bool true :: u19 39 :: u19 40 :: u19 41 :: u19 42 :: u19 43 :: u19 44 :: u19 45 :: u19 46 :: u19 47 :: u19 48 :: u19 49 :: u19 50 :: u19 51 :: u19 52 :: u19 53 :: u19 54 :: u19 55 :: u19 56 :: u19 57 :: u19 58 :: u19 59 :: u19 60 :: u19 61 :: u19 62 :: u19 63 :: List.replicate 30 un).toArray, []⟩) (by kernel_rfl) ?_
        refine wp_seq ?_
        -- region 15
        refine wl_region ?_
        refine wl_val (bv .u32 ((sch s k).getD ((8 + k) - 1) 0)) (by kernel_rfl) (by kernel_rfl) ?_
        refine wl_call (v := bv .u32 (rlW ((sch s k).getD ((8 + k) - 1) 0) 8)) h21 (by kernel_rfl) enter28 #[bv .u32 ((sch s k).getD ((8 + k) - 1) 0), iN .i64 8] (by kernel_rfl) (rot8 ((sch s k).getD ((8 + k) - 1) 0) w20) ?_
        intro w22 h23
        refine wl_val (bv .u32 (rlW ((sch s k).getD ((8 + k) - 1) 0) 8)) (by kernel_rfl) (by kernel_rfl) ?_
        refine wl_nil ?_
        refine then_at (F := ⟨(.string s :: un :: .pointer none :: pt q3 :: pt q6 :: u9 5 :: iN .i64 (8 + k) :: bv .u32 (rlW ((sch s k).getD ((8 + k) - 1) 0) 8) :: bv .u32 0#32 :: un :: .agg (bc boxL) :: .agg (cc (List.replicate 60 (0 : BitVec 32))) :: pt q3 :: iN .i64 8 :: .bool false :: u9 15 :: u9 16 :: u9 17 :: u9 18 :: u9 19 :: u9 20 :: u9 21 :: u9 22 :: u9 23 :: u9 24 :: u9 25 :: u9 26 :: iN .i64 (8 + k) :: .bool true :: u19 29 :: u19 30 :: iN .i64 (8 + k) :: iN .i64 ((8 + k) - 1) :: .pointer (some ⟨q6, (8 + k) - 1, none⟩) :: bv .u32 ((sch s k).getD ((8 + k) - 1) 0) :: iN .i64 (8 + k) :: iN .i64 ((8 + k) % 8) :: .bool true :: .bool true :: u19 39 :: u19 40 :: bv .u32 ((sch s k).getD ((8 + k) - 1) 0) :: bv .u32 (rlW ((sch s k).getD ((8 + k) - 1) 0) 8) :: u19 43 :: u19 44 :: u19 45 :: u19 46 :: u19 47 :: u19 48 :: u19 49 :: u19 50 :: u19 51 :: u19 52 :: u19 53 :: u19 54 :: u19 55 :: u19 56 :: u19 57 :: u19 58 :: u19 59 :: u19 60 :: u19 61 :: u19 62 :: u19 63 :: List.replicate 30 un).toArray, []⟩) (by kernel_rfl) ?_
        -- region 16
        refine wl_region ?_
        refine wl_val (iN .i64 (8 + k)) (by kernel_rfl) (by kernel_rfl) ?_
        refine wl_val (iN .i64 ((8 + k) / 8)) (by kernel_rfl) (run_quo (k := .i64) (a := 8 + k) (b := 8) (by kernel_rfl) (by kernel_rfl) (by omega) (by simp only [top]; omega)) ?_
        refine wl_val (iN .i64 (24 + ((8 + k) / 8))) (by kernel_rfl) (run_add (k := .i64) (a := 24) (b := (8 + k) / 8) (by kernel_rfl) (by kernel_rfl) (by simp only [top]; omega)) ?_
        refine wl_val (iN .i64 ((24 + ((8 + k) / 8)) - 1)) (by kernel_rfl) (run_sub (k := .i64) (a := 24 + ((8 + k) / 8)) (b := 1) (by kernel_rfl) (by kernel_rfl) (by omega) (by simp only [top]; omega)) ?_
        refine wl_val (bv .u32 (1#32 <<< ((24 + ((8 + k) / 8)) - 1))) (by kernel_rfl) (run_shlv (k2 := .i64) (m := (24 + ((8 + k) / 8)) - 1) WK.s (a := 1#32) (by kernel_rfl) (by kernel_rfl) (by omega)) ?_
        refine wl_val (bv .u32 (1#32 <<< ((24 + ((8 + k) / 8)) - 1))) (by kernel_rfl) (by kernel_rfl) ?_
        refine wl_nil ?_
        refine block_normal ?_
        refine then_at (F := ⟨(.string s :: un :: .pointer none :: pt q3 :: pt q6 :: u9 5 :: iN .i64 (8 + k) :: bv .u32 (rlW ((sch s k).getD ((8 + k) - 1) 0) 8) :: bv .u32 (1#32 <<< ((24 + ((8 + k) / 8)) - 1)) :: un :: .agg (bc boxL) :: .agg (cc (List.replicate 60 (0 : BitVec 32))) :: pt q3 :: iN .i64 8 :: .bool false :: u9 15 :: u9 16 :: u9 17 :: u9 18 :: u9 19 :: u9 20 :: u9 21 :: u9 22 :: u9 23 :: u9 24 :: u9 25 :: u9 26 :: iN .i64 (8 + k) :: .bool true :: u19 29 :: u19 30 :: iN .i64 (8 + k) :: iN .i64 ((8 + k) - 1) :: .pointer (some ⟨q6, (8 + k) - 1, none⟩) :: bv .u32 ((sch s k).getD ((8 + k) - 1) 0) :: iN .i64 (8 + k) :: iN .i64 ((8 + k) % 8) :: .bool true :: .bool true :: u19 39 :: u19 40 :: bv .u32 ((sch s k).getD ((8 + k) - 1) 0) :: bv .u32 (rlW ((sch s k).getD ((8 + k) - 1) 0) 8) :: iN .i64 (8 + k) :: iN .i64 ((8 + k) / 8) :: iN .i64 (24 + ((8 + k) / 8)) :: iN .i64 ((24 + ((8 + k) / 8)) - 1) :: bv .u32 (1#32 <<< ((24 + ((8 + k) / 8)) - 1)) :: u19 48 :: u19 49 :: u19 50 :: u19 51 :: u19 52 :: u19 53 :: u19 54 :: u19 55 :: u19 56 :: u19 57 :: u19 58 :: u19 59 :: u19 60 :: u19 61 :: u19 62 :: u19 63 :: List.replicate 30 un).toArray, []⟩) (by kernel_rfl) ?_
        refine wp_seq ?_
        -- region 17
        refine wl_region ?_
        refine wl_val (.pointer (some ⟨q3, 0, none⟩)) (by kernel_rfl) (by kernel_rfl) ?_
        refine wl_val (bv .u32 (rlW ((sch s k).getD ((8 + k) - 1) 0) 8)) (by kernel_rfl) (by kernel_rfl) ?_
        refine wl_val (bv .u32 (rlW ((sch s k).getD ((8 + k) - 1) 0) 8)) (by kernel_rfl) (by kernel_rfl) ?_
        refine wl_val (bv .u32 (rlW ((sch s k).getD ((8 + k) - 1) 0) 8)) (by kernel_rfl) (by kernel_rfl) ?_
        refine wl_val (bv .u32 (rlW ((sch s k).getD ((8 + k) - 1) 0) 8)) (by kernel_rfl) (by kernel_rfl) ?_
        refine wl_call (v := bv .u32 (bxW (rlW ((sch s k).getD ((8 + k) - 1) 0) 8) (rlW ((sch s k).getD ((8 + k) - 1) 0) 8) (rlW ((sch s k).getD ((8 + k) - 1) 0) 8) (rlW ((sch s k).getD ((8 + k) - 1) 0) 8))) h23 (by kernel_rfl) enter29 #[.pointer (some ⟨q3, 0, none⟩), bv .u32 (rlW ((sch s k).getD ((8 + k) - 1) 0) 8), bv .u32 (rlW ((sch s k).getD ((8 + k) - 1) 0) 8), bv .u32 (rlW ((sch s k).getD ((8 + k) - 1) 0) 8), bv .u32 (rlW ((sch s k).getD ((8 + k) - 1) 0) 8)] (by kernel_rfl) (boxed_any q3 (List.replicate 60 (0 : BitVec 32)) (rlW ((sch s k).getD ((8 + k) - 1) 0) 8) (rlW ((sch s k).getD ((8 + k) - 1) 0) 8) (rlW ((sch s k).getD ((8 + k) - 1) 0) 8) (rlW ((sch s k).getD ((8 + k) - 1) 0) 8) w22 (h23.get 1 rfl)) ?_
        intro w24 h25
        refine wl_val (bv .u32 (bxW (rlW ((sch s k).getD ((8 + k) - 1) 0) 8) (rlW ((sch s k).getD ((8 + k) - 1) 0) 8) (rlW ((sch s k).getD ((8 + k) - 1) 0) 8) (rlW ((sch s k).getD ((8 + k) - 1) 0) 8))) (by kernel_rfl) (by kernel_rfl) ?_
        refine wl_nil ?_
        refine then_at (F := ⟨(.string s :: un :: .pointer none :: pt q3 :: pt q6 :: u9 5 :: iN .i64 (8 + k) :: bv .u32 (bxW (rlW ((sch s k).getD ((8 + k) - 1) 0) 8) (rlW ((sch s k).getD ((8 + k) - 1) 0) 8) (rlW ((sch s k).getD ((8 + k) - 1) 0) 8) (rlW ((sch s k).getD ((8 + k) - 1) 0) 8)) :: bv .u32 (1#32 <<< ((24 + ((8 + k) / 8)) - 1)) :: un :: .agg (bc boxL) :: .agg (cc (List.replicate 60 (0 : BitVec 32))) :: pt q3 :: iN .i64 8 :: .bool false :: u9 15 :: u9 16 :: u9 17 :: u9 18 :: u9 19 :: u9 20 :: u9 21 :: u9 22 :: u9 23 :: u9 24 :: u9 25 :: u9 26 :: iN .i64 (8 + k) :: .bool true :: u19 29 :: u19 30 :: iN .i64 (8 + k) :: iN .i64 ((8 + k) - 1) :: .pointer (some ⟨q6, (8 + k) - 1, none⟩) :: bv .u32 ((sch s k).getD ((8 + k) - 1) 0) :: iN .i64 (8 + k) :: iN .i64 ((8 + k) % 8) :: .bool true :: .bool true :: u19 39 :: u19 40 :: bv .u32 ((sch s k).getD ((8 + k) - 1) 0) :: bv .u32 (rlW ((sch s k).getD ((8 + k) - 1) 0) 8) :: iN .i64 (8 + k) :: iN .i64 ((8 + k) / 8) :: iN .i64 (24 + ((8 + k) / 8)) :: iN .i64 ((24 + ((8 + k) / 8)) - 1) :: bv .u32 (1#32 <<< ((24 + ((8 + k) / 8)) - 1)) :: pt q3 :: bv .u32 (rlW ((sch s k).getD ((8 + k) - 1) 0) 8) :: bv .u32 (rlW ((sch s k).getD ((8 + k) - 1) 0) 8) :: bv .u32 (rlW ((sch s k).getD ((8 + k) - 1) 0) 8) :: bv .u32 (rlW ((sch s k).getD ((8 + k) - 1) 0) 8) :: bv .u32 (bxW (rlW ((sch s k).getD ((8 + k) - 1) 0) 8) (rlW ((sch s k).getD ((8 + k) - 1) 0) 8) (rlW ((sch s k).getD ((8 + k) - 1) 0) 8) (rlW ((sch s k).getD ((8 + k) - 1) 0) 8)) :: u19 54 :: u19 55 :: u19 56 :: u19 57 :: u19 58 :: u19 59 :: u19 60 :: u19 61 :: u19 62 :: u19 63 :: List.replicate 30 un).toArray, []⟩) (by kernel_rfl) ?_
        refine wp_exit ?_
        repeat first | refine then_exit ?_ | refine block_exit ?_ | refine block_exit_ne (by decide) ?_
        refine then_at (F := ⟨(.string s :: un :: .pointer none :: pt q3 :: pt q6 :: u9 5 :: iN .i64 (8 + k) :: bv .u32 (bxW (rlW ((sch s k).getD ((8 + k) - 1) 0) 8) (rlW ((sch s k).getD ((8 + k) - 1) 0) 8) (rlW ((sch s k).getD ((8 + k) - 1) 0) 8) (rlW ((sch s k).getD ((8 + k) - 1) 0) 8)) :: bv .u32 (1#32 <<< ((24 + ((8 + k) / 8)) - 1)) :: un :: .agg (bc boxL) :: .agg (cc (List.replicate 60 (0 : BitVec 32))) :: pt q3 :: iN .i64 8 :: .bool false :: u9 15 :: u9 16 :: u9 17 :: u9 18 :: u9 19 :: u9 20 :: u9 21 :: u9 22 :: u9 23 :: u9 24 :: u9 25 :: u9 26 :: iN .i64 (8 + k) :: .bool true :: u19 29 :: u19 30 :: iN .i64 (8 + k) :: iN .i64 ((8 + k) - 1) :: .pointer (some ⟨q6, (8 + k) - 1, none⟩) :: bv .u32 ((sch s k).getD ((8 + k) - 1) 0) :: iN .i64 (8 + k) :: iN .i64 ((8 + k) % 8) :: .bool true :: .bool true :: u19 39 :: u19 40 :: bv .u32 ((sch s k).getD ((8 + k) - 1) 0) :: bv .u32 (rlW ((sch s k).getD ((8 + k) - 1) 0) 8) :: iN .i64 (8 + k) :: iN .i64 ((8 + k) / 8) :: iN .i64 (24 + ((8 + k) / 8)) :: iN .i64 ((24 + ((8 + k) / 8)) - 1) :: bv .u32 (1#32 <<< ((24 + ((8 + k) / 8)) - 1)) :: pt q3 :: bv .u32 (rlW ((sch s k).getD ((8 + k) - 1) 0) 8) :: bv .u32 (rlW ((sch s k).getD ((8 + k) - 1) 0) 8) :: bv .u32 (rlW ((sch s k).getD ((8 + k) - 1) 0) 8) :: bv .u32 (rlW ((sch s k).getD ((8 + k) - 1) 0) 8) :: bv .u32 (bxW (rlW ((sch s k).getD ((8 + k) - 1) 0) 8) (rlW ((sch s k).getD ((8 + k) - 1) 0) 8) (rlW ((sch s k).getD ((8 + k) - 1) 0) 8) (rlW ((sch s k).getD ((8 + k) - 1) 0) 8)) :: u19 54 :: u19 55 :: u19 56 :: u19 57 :: u19 58 :: u19 59 :: u19 60 :: u19 61 :: u19 62 :: u19 63 :: List.replicate 30 un).toArray, []⟩) (by kernel_rfl) ?_
        -- region 18
        refine wl_region ?_
        refine wl_val (iN .i64 (8 + k)) (by kernel_rfl) (by kernel_rfl) ?_
        refine wl_val (iN .i64 (8 + k)) (by kernel_rfl) (by kernel_rfl) ?_
        refine wl_val (iN .i64 ((8 + k) - 8)) (by kernel_rfl) (run_sub (k := .i64) (a := 8 + k) (b := 8) (by kernel_rfl) (by kernel_rfl) (by omega) (by simp only [top]; omega)) ?_
        refine wl_val (.pointer (some ⟨q6, (8 + k) - 8, none⟩)) (by kernel_rfl) (addr_eq (by omega) (run_addr_k (k := .i64) (q := q6) (o := 0) (a := (8 + k) - 8) (m := 1) Try.underlying60 (fun w => Try.sizeOf38 w) (by kernel_rfl) (by kernel_rfl) (by omega))) ?_
        refine wl_val (bv .u32 ((sch s k).getD ((8 + k) - 8) 0)) (by kernel_rfl) (run_load1 (fun w => Try.isAgg38 w) (by kernel_rfl) (((h25.get 0 rfl).cell ((8 + k) - 8)).trans (padw_get _ _ _ (by rw [sch_len]; omega)))) ?_
        refine wl_val (bv .u32 (bxW (rlW ((sch s k).getD ((8 + k) - 1) 0) 8) (rlW ((sch s k).getD ((8 + k) - 1) 0) 8) (rlW ((sch s k).getD ((8 + k) - 1) 0) 8) (rlW ((sch s k).getD ((8 + k) - 1) 0) 8))) (by kernel_rfl) (by kernel_rfl) ?_
        refine wl_val (bv .u32 (((sch s k).getD ((8 + k) - 8) 0) ^^^ (bxW (rlW ((sch s k).getD ((8 + k) - 1) 0) 8) (rlW ((sch s k).getD ((8 + k) - 1) 0) 8) (rlW ((sch s k).getD ((8 + k) - 1) 0) 8) (rlW ((sch s k).getD ((8 + k) - 1) 0) 8)))) (by kernel_rfl) (run_xorv WK.s (a := (sch s k).getD ((8 + k) - 8) 0) (b := bxW (rlW ((sch s k).getD ((8 + k) - 1) 0) 8) (rlW ((sch s k).getD ((8 + k) - 1) 0) 8) (rlW ((sch s k).getD ((8 + k) - 1) 0) 8) (rlW ((sch s k).getD ((8 + k) - 1) 0) 8)) (by kernel_rfl) (by kernel_rfl)) ?_
        refine wl_val (bv .u32 (1#32 <<< ((24 + ((8 + k) / 8)) - 1))) (by kernel_rfl) (by kernel_rfl) ?_
        refine wl_val (bv .u32 ((((sch s k).getD ((8 + k) - 8) 0) ^^^ (bxW (rlW ((sch s k).getD ((8 + k) - 1) 0) 8) (rlW ((sch s k).getD ((8 + k) - 1) 0) 8) (rlW ((sch s k).getD ((8 + k) - 1) 0) 8) (rlW ((sch s k).getD ((8 + k) - 1) 0) 8))) ^^^ (1#32 <<< ((24 + ((8 + k) / 8)) - 1)))) (by kernel_rfl) (run_xorv WK.s (a := ((sch s k).getD ((8 + k) - 8) 0) ^^^ (bxW (rlW ((sch s k).getD ((8 + k) - 1) 0) 8) (rlW ((sch s k).getD ((8 + k) - 1) 0) 8) (rlW ((sch s k).getD ((8 + k) - 1) 0) 8) (rlW ((sch s k).getD ((8 + k) - 1) 0) 8))) (b := 1#32 <<< ((24 + ((8 + k) / 8)) - 1)) (by kernel_rfl) (by kernel_rfl)) ?_
        refine wl_val (.pointer (some ⟨q6, 8 + k, none⟩)) (by kernel_rfl) (addr_eq (by omega) (run_addr_k (k := .i64) (q := q6) (o := 0) (a := 8 + k) (m := 1) Try.underlying60 (fun w => Try.sizeOf38 w) (by kernel_rfl) (by kernel_rfl) (by omega))) ?_
        refine wl_put (k := .u32) (z := ((((((sch s k).getD ((8 + k) - 8) 0) ^^^ (bxW (rlW ((sch s k).getD ((8 + k) - 1) 0) 8) (rlW ((sch s k).getD ((8 + k) - 1) 0) 8) (rlW ((sch s k).getD ((8 + k) - 1) 0) 8) (rlW ((sch s k).getD ((8 + k) - 1) 0) 8))) ^^^ (1#32 <<< ((24 + ((8 + k) / 8)) - 1))).toNat : Nat) : Int)) h25 0 rfl (8 + k) (by rw [wc_size, (pw_len (N := 60) (sch_len s k) (by omega))]; omega) (by kernel_rfl) (fun w => Try.sizeOf38 w) (by kernel_rfl) (by kernel_rfl) ?_
        intro w26 h27
        have h28 : HA w [(q6, 60, wc .u32 ((sch s k ++ [(((sch s k).getD ((8 + k) - 8) 0) ^^^ (bxW (rlW ((sch s k).getD ((8 + k) - 1) 0) 8) (rlW ((sch s k).getD ((8 + k) - 1) 0) 8) (rlW ((sch s k).getD ((8 + k) - 1) 0) 8) (rlW ((sch s k).getD ((8 + k) - 1) 0) 8))) ^^^ (1#32 <<< ((24 + ((8 + k) / 8)) - 1))]) ++ List.replicate (52 - (k + 1)) 0)), (q3, 59, cc (List.replicate 60 (0 : BitVec 32)))] w26 := by
          have e : (wc .u32 (sch s k ++ List.replicate (52 - k) 0)).setIfInBounds (8 + k) (.int .u32 ((((((sch s k).getD ((8 + k) - 8) 0) ^^^ (bxW (rlW ((sch s k).getD ((8 + k) - 1) 0) 8) (rlW ((sch s k).getD ((8 + k) - 1) 0) 8) (rlW ((sch s k).getD ((8 + k) - 1) 0) 8) (rlW ((sch s k).getD ((8 + k) - 1) 0) 8))) ^^^ (1#32 <<< ((24 + ((8 + k) / 8)) - 1))).toNat : Nat) : Int)) = wc .u32 ((sch s k ++ [(((sch s k).getD ((8 + k) - 8) 0) ^^^ (bxW (rlW ((sch s k).getD ((8 + k) - 1) 0) 8) (rlW ((sch s k).getD ((8 + k) - 1) 0) 8) (rlW ((sch s k).getD ((8 + k) - 1) 0) 8) (rlW ((sch s k).getD ((8 + k) - 1) 0) 8))) ^^^ (1#32 <<< ((24 + ((8 + k) / 8)) - 1))]) ++ List.replicate (52 - (k + 1)) 0) := (padw_put _ _ _ _ _ (sch_len s k) (by omega))
          rw [← e]; exact h27
        clear h27
        refine wl_nil ?_
        refine block_normal ?_
        refine then_at (F := ⟨(.string s :: un :: .pointer none :: pt q3 :: pt q6 :: u9 5 :: iN .i64 (8 + k) :: bv .u32 (bxW (rlW ((sch s k).getD ((8 + k) - 1) 0) 8) (rlW ((sch s k).getD ((8 + k) - 1) 0) 8) (rlW ((sch s k).getD ((8 + k) - 1) 0) 8) (rlW ((sch s k).getD ((8 + k) - 1) 0) 8)) :: bv .u32 (1#32 <<< ((24 + ((8 + k) / 8)) - 1)) :: un :: .agg (bc boxL) :: .agg (cc (List.replicate 60 (0 : BitVec 32))) :: pt q3 :: iN .i64 8 :: .bool false :: u9 15 :: u9 16 :: u9 17 :: u9 18 :: u9 19 :: u9 20 :: u9 21 :: u9 22 :: u9 23 :: u9 24 :: u9 25 :: u9 26 :: iN .i64 (8 + k) :: .bool true :: u19 29 :: u19 30 :: iN .i64 (8 + k) :: iN .i64 ((8 + k) - 1) :: .pointer (some ⟨q6, (8 + k) - 1, none⟩) :: bv .u32 ((sch s k).getD ((8 + k) - 1) 0) :: iN .i64 (8 + k) :: iN .i64 ((8 + k) % 8) :: .bool true :: .bool true :: u19 39 :: u19 40 :: bv .u32 ((sch s k).getD ((8 + k) - 1) 0) :: bv .u32 (rlW ((sch s k).getD ((8 + k) - 1) 0) 8) :: iN .i64 (8 + k) :: iN .i64 ((8 + k) / 8) :: iN .i64 (24 + ((8 + k) / 8)) :: iN .i64 ((24 + ((8 + k) / 8)) - 1) :: bv .u32 (1#32 <<< ((24 + ((8 + k) / 8)) - 1)) :: pt q3 :: bv .u32 (rlW ((sch s k).getD ((8 + k) - 1) 0) 8) :: bv .u32 (rlW ((sch s k).getD ((8 + k) - 1) 0) 8) :: bv .u32 (rlW ((sch s k).getD ((8 + k) - 1) 0) 8) :: bv .u32 (rlW ((sch s k).getD ((8 + k) - 1) 0) 8) :: bv .u32 (bxW (rlW ((sch s k).getD ((8 + k) - 1) 0) 8) (rlW ((sch s k).getD ((8 + k) - 1) 0) 8) (rlW ((sch s k).getD ((8 + k) - 1) 0) 8) (rlW ((sch s k).getD ((8 + k) - 1) 0) 8)) :: iN .i64 (8 + k) :: iN .i64 (8 + k) :: iN .i64 ((8 + k) - 8) :: .pointer (some ⟨q6, (8 + k) - 8, none⟩) :: bv .u32 ((sch s k).getD ((8 + k) - 8) 0) :: bv .u32 (bxW (rlW ((sch s k).getD ((8 + k) - 1) 0) 8) (rlW ((sch s k).getD ((8 + k) - 1) 0) 8) (rlW ((sch s k).getD ((8 + k) - 1) 0) 8) (rlW ((sch s k).getD ((8 + k) - 1) 0) 8)) :: bv .u32 (((sch s k).getD ((8 + k) - 8) 0) ^^^ (bxW (rlW ((sch s k).getD ((8 + k) - 1) 0) 8) (rlW ((sch s k).getD ((8 + k) - 1) 0) 8) (rlW ((sch s k).getD ((8 + k) - 1) 0) 8) (rlW ((sch s k).getD ((8 + k) - 1) 0) 8))) :: bv .u32 (1#32 <<< ((24 + ((8 + k) / 8)) - 1)) :: bv .u32 ((((sch s k).getD ((8 + k) - 8) 0) ^^^ (bxW (rlW ((sch s k).getD ((8 + k) - 1) 0) 8) (rlW ((sch s k).getD ((8 + k) - 1) 0) 8) (rlW ((sch s k).getD ((8 + k) - 1) 0) 8) (rlW ((sch s k).getD ((8 + k) - 1) 0) 8))) ^^^ (1#32 <<< ((24 + ((8 + k) / 8)) - 1))) :: .pointer (some ⟨q6, 8 + k, none⟩) :: List.replicate 30 un).toArray, []⟩) (by kernel_rfl) ?_
        -- region 10
        refine wl_region ?_
        refine wl_val (iN .i64 (8 + k)) (by kernel_rfl) (by kernel_rfl) ?_
        refine wl_val (iN .i64 ((8 + k) + 1)) (by kernel_rfl) (run_add (k := .i64) (a := 8 + k) (b := 1) (by kernel_rfl) (by kernel_rfl) (by simp only [top]; omega)) ?_
        refine wl_val (iN .i64 ((8 + k) + 1)) (by kernel_rfl) (by kernel_rfl) ?_
        refine wl_nil ?_
        exact then_I ⟨fun ii => (([(7, bv .u32 (bxW (rlW ((sch s k).getD ((8 + k) - 1) 0) 8) (rlW ((sch s k).getD ((8 + k) - 1) 0) 8) (rlW ((sch s k).getD ((8 + k) - 1) 0) 8) (rlW ((sch s k).getD ((8 + k) - 1) 0) 8))), (8, bv .u32 (1#32 <<< ((24 + ((8 + k) / 8)) - 1))), (27, iN .i64 (8 + k)), (28, .bool true), (29, iN .i64 (8 + k)), (30, iN .i64 ((8 + k) + 1)), (31, iN .i64 (8 + k)), (32, iN .i64 ((8 + k) - 1)), (33, .pointer (some ⟨q6, (8 + k) - 1, none⟩)), (34, bv .u32 ((sch s k).getD ((8 + k) - 1) 0)), (35, iN .i64 (8 + k)), (36, iN .i64 ((8 + k) % 8)), (37, .bool true), (38, .bool true), (39, u19 39), (40, u19 40), (41, bv .u32 ((sch s k).getD ((8 + k) - 1) 0)), (42, bv .u32 (rlW ((sch s k).getD ((8 + k) - 1) 0) 8)), (43, iN .i64 (8 + k)), (44, iN .i64 ((8 + k) / 8)), (45, iN .i64 (24 + ((8 + k) / 8))), (46, iN .i64 ((24 + ((8 + k) / 8)) - 1)), (47, bv .u32 (1#32 <<< ((24 + ((8 + k) / 8)) - 1))), (48, .pointer (some ⟨q3, 0, none⟩)), (49, bv .u32 (rlW ((sch s k).getD ((8 + k) - 1) 0) 8)), (50, bv .u32 (rlW ((sch s k).getD ((8 + k) - 1) 0) 8)), (51, bv .u32 (rlW ((sch s k).getD ((8 + k) - 1) 0) 8)), (52, bv .u32 (rlW ((sch s k).getD ((8 + k) - 1) 0) 8)), (53, bv .u32 (bxW (rlW ((sch s k).getD ((8 + k) - 1) 0) 8) (rlW ((sch s k).getD ((8 + k) - 1) 0) 8) (rlW ((sch s k).getD ((8 + k) - 1) 0) 8) (rlW ((sch s k).getD ((8 + k) - 1) 0) 8))), (54, iN .i64 (8 + k)), (55, iN .i64 (8 + k)), (56, iN .i64 ((8 + k) - 8)), (57, .pointer (some ⟨q6, (8 + k) - 8, none⟩)), (58, bv .u32 ((sch s k).getD ((8 + k) - 8) 0)), (59, bv .u32 (bxW (rlW ((sch s k).getD ((8 + k) - 1) 0) 8) (rlW ((sch s k).getD ((8 + k) - 1) 0) 8) (rlW ((sch s k).getD ((8 + k) - 1) 0) 8) (rlW ((sch s k).getD ((8 + k) - 1) 0) 8))), (60, bv .u32 (((sch s k).getD ((8 + k) - 8) 0) ^^^ (bxW (rlW ((sch s k).getD ((8 + k) - 1) 0) 8) (rlW ((sch s k).getD ((8 + k) - 1) 0) 8) (rlW ((sch s k).getD ((8 + k) - 1) 0) 8) (rlW ((sch s k).getD ((8 + k) - 1) 0) 8)))), (61, bv .u32 (1#32 <<< ((24 + ((8 + k) / 8)) - 1))), (62, bv .u32 ((((sch s k).getD ((8 + k) - 8) 0) ^^^ (bxW (rlW ((sch s k).getD ((8 + k) - 1) 0) 8) (rlW ((sch s k).getD ((8 + k) - 1) 0) 8) (rlW ((sch s k).getD ((8 + k) - 1) 0) 8) (rlW ((sch s k).getD ((8 + k) - 1) 0) 8))) ^^^ (1#32 <<< ((24 + ((8 + k) / 8)) - 1)))), (63, .pointer (some ⟨q6, 8 + k, none⟩))] : List (Nat × Value)).find? (·.1 == ii)).elim undef (·.2), by kernel_rfl, (by rw [sch_a s k hc]; exact h28)⟩
      · -- region 13
        refine wl_region ?_
        refine wl_val (.bool false) (by kernel_rfl) (run_eqi (k := .i64) (a := (8 + k) % 8) (b := 0) (by kernel_rfl) (by kernel_rfl) false (decide_eq_false hc)) ?_
        refine wl_val (.bool false) (by kernel_rfl) (by kernel_rfl) ?_
        refine wl_nil ?_
        refine then_at (F := ⟨(.string s :: un :: .pointer none :: pt q3 :: pt q6 :: u9 5 :: iN .i64 (8 + k) :: bv .u32 ((sch s k).getD ((8 + k) - 1) 0) :: bv .u32 0#32 :: un :: .agg (bc boxL) :: .agg (cc (List.replicate 60 (0 : BitVec 32))) :: pt q3 :: iN .i64 8 :: .bool false :: u9 15 :: u9 16 :: u9 17 :: u9 18 :: u9 19 :: u9 20 :: u9 21 :: u9 22 :: u9 23 :: u9 24 :: u9 25 :: u9 26 :: iN .i64 (8 + k) :: .bool true :: u19 29 :: u19 30 :: iN .i64 (8 + k) :: iN .i64 ((8 + k) - 1) :: .pointer (some ⟨q6, (8 + k) - 1, none⟩) :: bv .u32 ((sch s k).getD ((8 + k) - 1) 0) :: iN .i64 (8 + k) :: iN .i64 ((8 + k) % 8) :: .bool false :: .bool false :: u19 39 :: u19 40 :: u19 41 :: u19 42 :: u19 43 :: u19 44 :: u19 45 :: u19 46 :: u19 47 :: u19 48 :: u19 49 :: u19 50 :: u19 51 :: u19 52 :: u19 53 :: u19 54 :: u19 55 :: u19 56 :: u19 57 :: u19 58 :: u19 59 :: u19 60 :: u19 61 :: u19 62 :: u19 63 :: List.replicate 30 un).toArray, []⟩) (by kernel_rfl) ?_
        refine wp_cond_false (by kernel_rfl) ?_
        refine wp_skip ?_
        refine then_at (F := ⟨(.string s :: un :: .pointer none :: pt q3 :: pt q6 :: u9 5 :: iN .i64 (8 + k) :: bv .u32 ((sch s k).getD ((8 + k) - 1) 0) :: bv .u32 0#32 :: un :: .agg (bc boxL) :: .agg (cc (List.replicate 60 (0 : BitVec 32))) :: pt q3 :: iN .i64 8 :: .bool false :: u9 15 :: u9 16 :: u9 17 :: u9 18 :: u9 19 :: u9 20 :: u9 21 :: u9 22 :: u9 23 :: u9 24 :: u9 25 :: u9 26 :: iN .i64 (8 + k) :: .bool true :: u19 29 :: u19 30 :: iN .i64 (8 + k) :: iN .i64 ((8 + k) - 1) :: .pointer (some ⟨q6, (8 + k) - 1, none⟩) :: bv .u32 ((sch s k).getD ((8 + k) - 1) 0) :: iN .i64 (8 + k) :: iN .i64 ((8 + k) % 8) :: .bool false :: .bool false :: u19 39 :: u19 40 :: u19 41 :: u19 42 :: u19 43 :: u19 44 :: u19 45 :: u19 46 :: u19 47 :: u19 48 :: u19 49 :: u19 50 :: u19 51 :: u19 52 :: u19 53 :: u19 54 :: u19 55 :: u19 56 :: u19 57 :: u19 58 :: u19 59 :: u19 60 :: u19 61 :: u19 62 :: u19 63 :: List.replicate 30 un).toArray, []⟩) (by kernel_rfl) ?_
        refine wp_seq ?_
        by_cases hd : (8 + k) % 8 = 4
        · -- region 14
          refine wl_region ?_
          refine wl_val (.bool true) (by kernel_rfl) (run_eqi (k := .i64) (a := (8 + k) % 8) (b := 4) (by kernel_rfl) (by kernel_rfl) true (decide_eq_true hd)) ?_
          refine wl_val (.bool true) (by kernel_rfl) (by kernel_rfl) ?_
          refine wl_nil ?_
          refine then_at (F := ⟨(.string s :: un :: .pointer none :: pt q3 :: pt q6 :: u9 5 :: iN .i64 (8 + k) :: bv .u32 ((sch s k).getD ((8 + k) - 1) 0) :: bv .u32 0#32 :: un :: .agg (bc boxL) :: .agg (cc (List.replicate 60 (0 : BitVec 32))) :: pt q3 :: iN .i64 8 :: .bool false :: u9 15 :: u9 16 :: u9 17 :: u9 18 :: u9 19 :: u9 20 :: u9 21 :: u9 22 :: u9 23 :: u9 24 :: u9 25 :: u9 26 :: iN .i64 (8 + k) :: .bool true :: u19 29 :: u19 30 :: iN .i64 (8 + k) :: iN .i64 ((8 + k) - 1) :: .pointer (some ⟨q6, (8 + k) - 1, none⟩) :: bv .u32 ((sch s k).getD ((8 + k) - 1) 0) :: iN .i64 (8 + k) :: iN .i64 ((8 + k) % 8) :: .bool false :: .bool false :: .bool true :: .bool true :: u19 41 :: u19 42 :: u19 43 :: u19 44 :: u19 45 :: u19 46 :: u19 47 :: u19 48 :: u19 49 :: u19 50 :: u19 51 :: u19 52 :: u19 53 :: u19 54 :: u19 55 :: u19 56 :: u19 57 :: u19 58 :: u19 59 :: u19 60 :: u19 61 :: u19 62 :: u19 63 :: List.replicate 30 un).toArray, []⟩) (by kernel_rfl) ?_
          refine wp_cond_true (by kernel_rfl) ?_
          refine wp_exit ?_
          repeat first | refine then_exit ?_ | refine block_exit ?_ | refine block_exit_ne (by decide) ?_
          refine then_at (F := ⟨(.string s :: un :: .pointer none :: pt q3 :: pt q6 :: u9 5 :: iN .i64 (8 + k) :: bv .u32 ((sch s k).getD ((8 + k) - 1) 0) :: bv .u32 0#32 :: un :: .agg (bc boxL) :: .agg (cc (List.replicate 60 (0 : BitVec 32))) :: pt q3 :: iN .i64 8 :: .bool false :: u9 15 :: u9 16 :: u9 17 :: u9 18 :: u9 19 :: u9 20 :: u9 21 :: u9 22 :: u9 23 :: u9 24 :: u9 25 :: u9 26 :: iN .i64 (8 + k) :: .bool true :: u19 29 :: u19 30 :: iN .i64 (8 + k) :: iN .i64 ((8 + k) - 1) :: .pointer (some ⟨q6, (8 + k) - 1, none⟩) :: bv .u32 ((sch s k).getD ((8 + k) - 1) 0) :: iN .i64 (8 + k) :: iN .i64 ((8 + k) % 8) :: .bool false :: .bool false :: .bool true :: .bool true :: u19 41 :: u19 42 :: u19 43 :: u19 44 :: u19 45 :: u19 46 :: u19 47 :: u19 48 :: u19 49 :: u19 50 :: u19 51 :: u19 52 :: u19 53 :: u19 54 :: u19 55 :: u19 56 :: u19 57 :: u19 58 :: u19 59 :: u19 60 :: u19 61 :: u19 62 :: u19 63 :: List.replicate 30 un).toArray, []⟩) (by kernel_rfl) ?_
          refine wp_seq ?_
          -- region 17
          refine wl_region ?_
          refine wl_val (.pointer (some ⟨q3, 0, none⟩)) (by kernel_rfl) (by kernel_rfl) ?_
          refine wl_val (bv .u32 ((sch s k).getD ((8 + k) - 1) 0)) (by kernel_rfl) (by kernel_rfl) ?_
          refine wl_val (bv .u32 ((sch s k).getD ((8 + k) - 1) 0)) (by kernel_rfl) (by kernel_rfl) ?_
          refine wl_val (bv .u32 ((sch s k).getD ((8 + k) - 1) 0)) (by kernel_rfl) (by kernel_rfl) ?_
          refine wl_val (bv .u32 ((sch s k).getD ((8 + k) - 1) 0)) (by kernel_rfl) (by kernel_rfl) ?_
          refine wl_call (v := bv .u32 (bxW ((sch s k).getD ((8 + k) - 1) 0) ((sch s k).getD ((8 + k) - 1) 0) ((sch s k).getD ((8 + k) - 1) 0) ((sch s k).getD ((8 + k) - 1) 0))) h21 (by kernel_rfl) enter29 #[.pointer (some ⟨q3, 0, none⟩), bv .u32 ((sch s k).getD ((8 + k) - 1) 0), bv .u32 ((sch s k).getD ((8 + k) - 1) 0), bv .u32 ((sch s k).getD ((8 + k) - 1) 0), bv .u32 ((sch s k).getD ((8 + k) - 1) 0)] (by kernel_rfl) (boxed_any q3 (List.replicate 60 (0 : BitVec 32)) ((sch s k).getD ((8 + k) - 1) 0) ((sch s k).getD ((8 + k) - 1) 0) ((sch s k).getD ((8 + k) - 1) 0) ((sch s k).getD ((8 + k) - 1) 0) w20 (h21.get 1 rfl)) ?_
          intro w29 h30
          refine wl_val (bv .u32 (bxW ((sch s k).getD ((8 + k) - 1) 0) ((sch s k).getD ((8 + k) - 1) 0) ((sch s k).getD ((8 + k) - 1) 0) ((sch s k).getD ((8 + k) - 1) 0))) (by kernel_rfl) (by kernel_rfl) ?_
          refine wl_nil ?_
          refine then_at (F := ⟨(.string s :: un :: .pointer none :: pt q3 :: pt q6 :: u9 5 :: iN .i64 (8 + k) :: bv .u32 (bxW ((sch s k).getD ((8 + k) - 1) 0) ((sch s k).getD ((8 + k) - 1) 0) ((sch s k).getD ((8 + k) - 1) 0) ((sch s k).getD ((8 + k) - 1) 0)) :: bv .u32 0#32 :: un :: .agg (bc boxL) :: .agg (cc (List.replicate 60 (0 : BitVec 32))) :: pt q3 :: iN .i64 8 :: .bool false :: u9 15 :: u9 16 :: u9 17 :: u9 18 :: u9 19 :: u9 20 :: u9 21 :: u9 22 :: u9 23 :: u9 24 :: u9 25 :: u9 26 :: iN .i64 (8 + k) :: .bool true :: u19 29 :: u19 30 :: iN .i64 (8 + k) :: iN .i64 ((8 + k) - 1) :: .pointer (some ⟨q6, (8 + k) - 1, none⟩) :: bv .u32 ((sch s k).getD ((8 + k) - 1) 0) :: iN .i64 (8 + k) :: iN .i64 ((8 + k) % 8) :: .bool false :: .bool false :: .bool true :: .bool true :: u19 41 :: u19 42 :: u19 43 :: u19 44 :: u19 45 :: u19 46 :: u19 47 :: pt q3 :: bv .u32 ((sch s k).getD ((8 + k) - 1) 0) :: bv .u32 ((sch s k).getD ((8 + k) - 1) 0) :: bv .u32 ((sch s k).getD ((8 + k) - 1) 0) :: bv .u32 ((sch s k).getD ((8 + k) - 1) 0) :: bv .u32 (bxW ((sch s k).getD ((8 + k) - 1) 0) ((sch s k).getD ((8 + k) - 1) 0) ((sch s k).getD ((8 + k) - 1) 0) ((sch s k).getD ((8 + k) - 1) 0)) :: u19 54 :: u19 55 :: u19 56 :: u19 57 :: u19 58 :: u19 59 :: u19 60 :: u19 61 :: u19 62 :: u19 63 :: List.replicate 30 un).toArray, []⟩) (by kernel_rfl) ?_
          refine wp_exit ?_
          repeat first | refine then_exit ?_ | refine block_exit ?_ | refine block_exit_ne (by decide) ?_
          refine then_at (F := ⟨(.string s :: un :: .pointer none :: pt q3 :: pt q6 :: u9 5 :: iN .i64 (8 + k) :: bv .u32 (bxW ((sch s k).getD ((8 + k) - 1) 0) ((sch s k).getD ((8 + k) - 1) 0) ((sch s k).getD ((8 + k) - 1) 0) ((sch s k).getD ((8 + k) - 1) 0)) :: bv .u32 0#32 :: un :: .agg (bc boxL) :: .agg (cc (List.replicate 60 (0 : BitVec 32))) :: pt q3 :: iN .i64 8 :: .bool false :: u9 15 :: u9 16 :: u9 17 :: u9 18 :: u9 19 :: u9 20 :: u9 21 :: u9 22 :: u9 23 :: u9 24 :: u9 25 :: u9 26 :: iN .i64 (8 + k) :: .bool true :: u19 29 :: u19 30 :: iN .i64 (8 + k) :: iN .i64 ((8 + k) - 1) :: .pointer (some ⟨q6, (8 + k) - 1, none⟩) :: bv .u32 ((sch s k).getD ((8 + k) - 1) 0) :: iN .i64 (8 + k) :: iN .i64 ((8 + k) % 8) :: .bool false :: .bool false :: .bool true :: .bool true :: u19 41 :: u19 42 :: u19 43 :: u19 44 :: u19 45 :: u19 46 :: u19 47 :: pt q3 :: bv .u32 ((sch s k).getD ((8 + k) - 1) 0) :: bv .u32 ((sch s k).getD ((8 + k) - 1) 0) :: bv .u32 ((sch s k).getD ((8 + k) - 1) 0) :: bv .u32 ((sch s k).getD ((8 + k) - 1) 0) :: bv .u32 (bxW ((sch s k).getD ((8 + k) - 1) 0) ((sch s k).getD ((8 + k) - 1) 0) ((sch s k).getD ((8 + k) - 1) 0) ((sch s k).getD ((8 + k) - 1) 0)) :: u19 54 :: u19 55 :: u19 56 :: u19 57 :: u19 58 :: u19 59 :: u19 60 :: u19 61 :: u19 62 :: u19 63 :: List.replicate 30 un).toArray, []⟩) (by kernel_rfl) ?_
          -- region 18
          refine wl_region ?_
          refine wl_val (iN .i64 (8 + k)) (by kernel_rfl) (by kernel_rfl) ?_
          refine wl_val (iN .i64 (8 + k)) (by kernel_rfl) (by kernel_rfl) ?_
          refine wl_val (iN .i64 ((8 + k) - 8)) (by kernel_rfl) (run_sub (k := .i64) (a := 8 + k) (b := 8) (by kernel_rfl) (by kernel_rfl) (by omega) (by simp only [top]; omega)) ?_
          refine wl_val (.pointer (some ⟨q6, (8 + k) - 8, none⟩)) (by kernel_rfl) (addr_eq (by omega) (run_addr_k (k := .i64) (q := q6) (o := 0) (a := (8 + k) - 8) (m := 1) Try.underlying60 (fun w => Try.sizeOf38 w) (by kernel_rfl) (by kernel_rfl) (by omega))) ?_
          refine wl_val (bv .u32 ((sch s k).getD ((8 + k) - 8) 0)) (by kernel_rfl) (run_load1 (fun w => Try.isAgg38 w) (by kernel_rfl) (((h30.get 0 rfl).cell ((8 + k) - 8)).trans (padw_get _ _ _ (by rw [sch_len]; omega)))) ?_
          refine wl_val (bv .u32 (bxW ((sch s k).getD ((8 + k) - 1) 0) ((sch s k).getD ((8 + k) - 1) 0) ((sch s k).getD ((8 + k) - 1) 0) ((sch s k).getD ((8 + k) - 1) 0))) (by kernel_rfl) (by kernel_rfl) ?_
          refine wl_val (bv .u32 (((sch s k).getD ((8 + k) - 8) 0) ^^^ (bxW ((sch s k).getD ((8 + k) - 1) 0) ((sch s k).getD ((8 + k) - 1) 0) ((sch s k).getD ((8 + k) - 1) 0) ((sch s k).getD ((8 + k) - 1) 0)))) (by kernel_rfl) (run_xorv WK.s (a := (sch s k).getD ((8 + k) - 8) 0) (b := bxW ((sch s k).getD ((8 + k) - 1) 0) ((sch s k).getD ((8 + k) - 1) 0) ((sch s k).getD ((8 + k) - 1) 0) ((sch s k).getD ((8 + k) - 1) 0)) (by kernel_rfl) (by kernel_rfl)) ?_
          refine wl_val (bv .u32 0#32) (by kernel_rfl) (by kernel_rfl) ?_
          refine wl_val (bv .u32 ((((sch s k).getD ((8 + k) - 8) 0) ^^^ (bxW ((sch s k).getD ((8 + k) - 1) 0) ((sch s k).getD ((8 + k) - 1) 0) ((sch s k).getD ((8 + k) - 1) 0) ((sch s k).getD ((8 + k) - 1) 0))) ^^^ 0#32)) (by kernel_rfl) (run_xorv WK.s (a := ((sch s k).getD ((8 + k) - 8) 0) ^^^ (bxW ((sch s k).getD ((8 + k) - 1) 0) ((sch s k).getD ((8 + k) - 1) 0) ((sch s k).getD ((8 + k) - 1) 0) ((sch s k).getD ((8 + k) - 1) 0))) (b := 0#32) (by kernel_rfl) (by kernel_rfl)) ?_
          refine wl_val (.pointer (some ⟨q6, 8 + k, none⟩)) (by kernel_rfl) (addr_eq (by omega) (run_addr_k (k := .i64) (q := q6) (o := 0) (a := 8 + k) (m := 1) Try.underlying60 (fun w => Try.sizeOf38 w) (by kernel_rfl) (by kernel_rfl) (by omega))) ?_
          refine wl_put (k := .u32) (z := ((((((sch s k).getD ((8 + k) - 8) 0) ^^^ (bxW ((sch s k).getD ((8 + k) - 1) 0) ((sch s k).getD ((8 + k) - 1) 0) ((sch s k).getD ((8 + k) - 1) 0) ((sch s k).getD ((8 + k) - 1) 0))) ^^^ 0#32).toNat : Nat) : Int)) h30 0 rfl (8 + k) (by rw [wc_size, (pw_len (N := 60) (sch_len s k) (by omega))]; omega) (by kernel_rfl) (fun w => Try.sizeOf38 w) (by kernel_rfl) (by kernel_rfl) ?_
          intro w31 h32
          have h33 : HA w [(q6, 60, wc .u32 ((sch s k ++ [(((sch s k).getD ((8 + k) - 8) 0) ^^^ (bxW ((sch s k).getD ((8 + k) - 1) 0) ((sch s k).getD ((8 + k) - 1) 0) ((sch s k).getD ((8 + k) - 1) 0) ((sch s k).getD ((8 + k) - 1) 0))) ^^^ 0#32]) ++ List.replicate (52 - (k + 1)) 0)), (q3, 59, cc (List.replicate 60 (0 : BitVec 32)))] w31 := by
            have e : (wc .u32 (sch s k ++ List.replicate (52 - k) 0)).setIfInBounds (8 + k) (.int .u32 ((((((sch s k).getD ((8 + k) - 8) 0) ^^^ (bxW ((sch s k).getD ((8 + k) - 1) 0) ((sch s k).getD ((8 + k) - 1) 0) ((sch s k).getD ((8 + k) - 1) 0) ((sch s k).getD ((8 + k) - 1) 0))) ^^^ 0#32).toNat : Nat) : Int)) = wc .u32 ((sch s k ++ [(((sch s k).getD ((8 + k) - 8) 0) ^^^ (bxW ((sch s k).getD ((8 + k) - 1) 0) ((sch s k).getD ((8 + k) - 1) 0) ((sch s k).getD ((8 + k) - 1) 0) ((sch s k).getD ((8 + k) - 1) 0))) ^^^ 0#32]) ++ List.replicate (52 - (k + 1)) 0) := (padw_put _ _ _ _ _ (sch_len s k) (by omega))
            rw [← e]; exact h32
          clear h32
          refine wl_nil ?_
          refine block_normal ?_
          refine then_at (F := ⟨(.string s :: un :: .pointer none :: pt q3 :: pt q6 :: u9 5 :: iN .i64 (8 + k) :: bv .u32 (bxW ((sch s k).getD ((8 + k) - 1) 0) ((sch s k).getD ((8 + k) - 1) 0) ((sch s k).getD ((8 + k) - 1) 0) ((sch s k).getD ((8 + k) - 1) 0)) :: bv .u32 0#32 :: un :: .agg (bc boxL) :: .agg (cc (List.replicate 60 (0 : BitVec 32))) :: pt q3 :: iN .i64 8 :: .bool false :: u9 15 :: u9 16 :: u9 17 :: u9 18 :: u9 19 :: u9 20 :: u9 21 :: u9 22 :: u9 23 :: u9 24 :: u9 25 :: u9 26 :: iN .i64 (8 + k) :: .bool true :: u19 29 :: u19 30 :: iN .i64 (8 + k) :: iN .i64 ((8 + k) - 1) :: .pointer (some ⟨q6, (8 + k) - 1, none⟩) :: bv .u32 ((sch s k).getD ((8 + k) - 1) 0) :: iN .i64 (8 + k) :: iN .i64 ((8 + k) % 8) :: .bool false :: .bool false :: .bool true :: .bool true :: u19 41 :: u19 42 :: u19 43 :: u19 44 :: u19 45 :: u19 46 :: u19 47 :: pt q3 :: bv .u32 ((sch s k).getD ((8 + k) - 1) 0) :: bv .u32 ((sch s k).getD ((8 + k) - 1) 0) :: bv .u32 ((sch s k).getD ((8 + k) - 1) 0) :: bv .u32 ((sch s k).getD ((8 + k) - 1) 0) :: bv .u32 (bxW ((sch s k).getD ((8 + k) - 1) 0) ((sch s k).getD ((8 + k) - 1) 0) ((sch s k).getD ((8 + k) - 1) 0) ((sch s k).getD ((8 + k) - 1) 0)) :: iN .i64 (8 + k) :: iN .i64 (8 + k) :: iN .i64 ((8 + k) - 8) :: .pointer (some ⟨q6, (8 + k) - 8, none⟩) :: bv .u32 ((sch s k).getD ((8 + k) - 8) 0) :: bv .u32 (bxW ((sch s k).getD ((8 + k) - 1) 0) ((sch s k).getD ((8 + k) - 1) 0) ((sch s k).getD ((8 + k) - 1) 0) ((sch s k).getD ((8 + k) - 1) 0)) :: bv .u32 (((sch s k).getD ((8 + k) - 8) 0) ^^^ (bxW ((sch s k).getD ((8 + k) - 1) 0) ((sch s k).getD ((8 + k) - 1) 0) ((sch s k).getD ((8 + k) - 1) 0) ((sch s k).getD ((8 + k) - 1) 0))) :: bv .u32 0#32 :: bv .u32 ((((sch s k).getD ((8 + k) - 8) 0) ^^^ (bxW ((sch s k).getD ((8 + k) - 1) 0) ((sch s k).getD ((8 + k) - 1) 0) ((sch s k).getD ((8 + k) - 1) 0) ((sch s k).getD ((8 + k) - 1) 0))) ^^^ 0#32) :: .pointer (some ⟨q6, 8 + k, none⟩) :: List.replicate 30 un).toArray, []⟩) (by kernel_rfl) ?_
          -- region 10
          refine wl_region ?_
          refine wl_val (iN .i64 (8 + k)) (by kernel_rfl) (by kernel_rfl) ?_
          refine wl_val (iN .i64 ((8 + k) + 1)) (by kernel_rfl) (run_add (k := .i64) (a := 8 + k) (b := 1) (by kernel_rfl) (by kernel_rfl) (by simp only [top]; omega)) ?_
          refine wl_val (iN .i64 ((8 + k) + 1)) (by kernel_rfl) (by kernel_rfl) ?_
          refine wl_nil ?_
          exact then_I ⟨fun ii => (([(7, bv .u32 (bxW ((sch s k).getD ((8 + k) - 1) 0) ((sch s k).getD ((8 + k) - 1) 0) ((sch s k).getD ((8 + k) - 1) 0) ((sch s k).getD ((8 + k) - 1) 0))), (8, bv .u32 0#32), (27, iN .i64 (8 + k)), (28, .bool true), (29, iN .i64 (8 + k)), (30, iN .i64 ((8 + k) + 1)), (31, iN .i64 (8 + k)), (32, iN .i64 ((8 + k) - 1)), (33, .pointer (some ⟨q6, (8 + k) - 1, none⟩)), (34, bv .u32 ((sch s k).getD ((8 + k) - 1) 0)), (35, iN .i64 (8 + k)), (36, iN .i64 ((8 + k) % 8)), (37, .bool false), (38, .bool false), (39, .bool true), (40, .bool true), (41, u19 41), (42, u19 42), (43, u19 43), (44, u19 44), (45, u19 45), (46, u19 46), (47, u19 47), (48, .pointer (some ⟨q3, 0, none⟩)), (49, bv .u32 ((sch s k).getD ((8 + k) - 1) 0)), (50, bv .u32 ((sch s k).getD ((8 + k) - 1) 0)), (51, bv .u32 ((sch s k).getD ((8 + k) - 1) 0)), (52, bv .u32 ((sch s k).getD ((8 + k) - 1) 0)), (53, bv .u32 (bxW ((sch s k).getD ((8 + k) - 1) 0) ((sch s k).getD ((8 + k) - 1) 0) ((sch s k).getD ((8 + k) - 1) 0) ((sch s k).getD ((8 + k) - 1) 0))), (54, iN .i64 (8 + k)), (55, iN .i64 (8 + k)), (56, iN .i64 ((8 + k) - 8)), (57, .pointer (some ⟨q6, (8 + k) - 8, none⟩)), (58, bv .u32 ((sch s k).getD ((8 + k) - 8) 0)), (59, bv .u32 (bxW ((sch s k).getD ((8 + k) - 1) 0) ((sch s k).getD ((8 + k) - 1) 0) ((sch s k).getD ((8 + k) - 1) 0) ((sch s k).getD ((8 + k) - 1) 0))), (60, bv .u32 (((sch s k).getD ((8 + k) - 8) 0) ^^^ (bxW ((sch s k).getD ((8 + k) - 1) 0) ((sch s k).getD ((8 + k) - 1) 0) ((sch s k).getD ((8 + k) - 1) 0) ((sch s k).getD ((8 + k) - 1) 0)))), (61, bv .u32 0#32), (62, bv .u32 ((((sch s k).getD ((8 + k) - 8) 0) ^^^ (bxW ((sch s k).getD ((8 + k) - 1) 0) ((sch s k).getD ((8 + k) - 1) 0) ((sch s k).getD ((8 + k) - 1) 0) ((sch s k).getD ((8 + k) - 1) 0))) ^^^ 0#32)), (63, .pointer (some ⟨q6, 8 + k, none⟩))] : List (Nat × Value)).find? (·.1 == ii)).elim undef (·.2), by kernel_rfl, (by rw [sch_b s k hc hd]; exact h33)⟩
        · -- region 14
          refine wl_region ?_
          refine wl_val (.bool false) (by kernel_rfl) (run_eqi (k := .i64) (a := (8 + k) % 8) (b := 4) (by kernel_rfl) (by kernel_rfl) false (decide_eq_false hd)) ?_
          refine wl_val (.bool false) (by kernel_rfl) (by kernel_rfl) ?_
          refine wl_nil ?_
          refine then_at (F := ⟨(.string s :: un :: .pointer none :: pt q3 :: pt q6 :: u9 5 :: iN .i64 (8 + k) :: bv .u32 ((sch s k).getD ((8 + k) - 1) 0) :: bv .u32 0#32 :: un :: .agg (bc boxL) :: .agg (cc (List.replicate 60 (0 : BitVec 32))) :: pt q3 :: iN .i64 8 :: .bool false :: u9 15 :: u9 16 :: u9 17 :: u9 18 :: u9 19 :: u9 20 :: u9 21 :: u9 22 :: u9 23 :: u9 24 :: u9 25 :: u9 26 :: iN .i64 (8 + k) :: .bool true :: u19 29 :: u19 30 :: iN .i64 (8 + k) :: iN .i64 ((8 + k) - 1) :: .pointer (some ⟨q6, (8 + k) - 1, none⟩) :: bv .u32 ((sch s k).getD ((8 + k) - 1) 0) :: iN .i64 (8 + k) :: iN .i64 ((8 + k) % 8) :: .bool false :: .bool false :: .bool false :: .bool false :: u19 41 :: u19 42 :: u19 43 :: u19 44 :: u19 45 :: u19 46 :: u19 47 :: u19 48 :: u19 49 :: u19 50 :: u19 51 :: u19 52 :: u19 53 :: u19 54 :: u19 55 :: u19 56 :: u19 57 :: u19 58 :: u19 59 :: u19 60 :: u19 61 :: u19 62 :: u19 63 :: List.replicate 30 un).toArray, []⟩) (by kernel_rfl) ?_
          refine wp_cond_false (by kernel_rfl) ?_
          refine wp_skip ?_
          refine then_at (F := ⟨(.string s :: un :: .pointer none :: pt q3 :: pt q6 :: u9 5 :: iN .i64 (8 + k) :: bv .u32 ((sch s k).getD ((8 + k) - 1) 0) :: bv .u32 0#32 :: un :: .agg (bc boxL) :: .agg (cc (List.replicate 60 (0 : BitVec 32))) :: pt q3 :: iN .i64 8 :: .bool false :: u9 15 :: u9 16 :: u9 17 :: u9 18 :: u9 19 :: u9 20 :: u9 21 :: u9 22 :: u9 23 :: u9 24 :: u9 25 :: u9 26 :: iN .i64 (8 + k) :: .bool true :: u19 29 :: u19 30 :: iN .i64 (8 + k) :: iN .i64 ((8 + k) - 1) :: .pointer (some ⟨q6, (8 + k) - 1, none⟩) :: bv .u32 ((sch s k).getD ((8 + k) - 1) 0) :: iN .i64 (8 + k) :: iN .i64 ((8 + k) % 8) :: .bool false :: .bool false :: .bool false :: .bool false :: u19 41 :: u19 42 :: u19 43 :: u19 44 :: u19 45 :: u19 46 :: u19 47 :: u19 48 :: u19 49 :: u19 50 :: u19 51 :: u19 52 :: u19 53 :: u19 54 :: u19 55 :: u19 56 :: u19 57 :: u19 58 :: u19 59 :: u19 60 :: u19 61 :: u19 62 :: u19 63 :: List.replicate 30 un).toArray, []⟩) (by kernel_rfl) ?_
          refine wp_exit ?_
          repeat first | refine then_exit ?_ | refine block_exit ?_ | refine block_exit_ne (by decide) ?_
          refine then_at (F := ⟨(.string s :: un :: .pointer none :: pt q3 :: pt q6 :: u9 5 :: iN .i64 (8 + k) :: bv .u32 ((sch s k).getD ((8 + k) - 1) 0) :: bv .u32 0#32 :: un :: .agg (bc boxL) :: .agg (cc (List.replicate 60 (0 : BitVec 32))) :: pt q3 :: iN .i64 8 :: .bool false :: u9 15 :: u9 16 :: u9 17 :: u9 18 :: u9 19 :: u9 20 :: u9 21 :: u9 22 :: u9 23 :: u9 24 :: u9 25 :: u9 26 :: iN .i64 (8 + k) :: .bool true :: u19 29 :: u19 30 :: iN .i64 (8 + k) :: iN .i64 ((8 + k) - 1) :: .pointer (some ⟨q6, (8 + k) - 1, none⟩) :: bv .u32 ((sch s k).getD ((8 + k) - 1) 0) :: iN .i64 (8 + k) :: iN .i64 ((8 + k) % 8) :: .bool false :: .bool false :: .bool false :: .bool false :: u19 41 :: u19 42 :: u19 43 :: u19 44 :: u19 45 :: u19 46 :: u19 47 :: u19 48 :: u19 49 :: u19 50 :: u19 51 :: u19 52 :: u19 53 :: u19 54 :: u19 55 :: u19 56 :: u19 57 :: u19 58 :: u19 59 :: u19 60 :: u19 61 :: u19 62 :: u19 63 :: List.replicate 30 un).toArray, []⟩) (by kernel_rfl) ?_
          -- region 18
          refine wl_region ?_
          refine wl_val (iN .i64 (8 + k)) (by kernel_rfl) (by kernel_rfl) ?_
          refine wl_val (iN .i64 (8 + k)) (by kernel_rfl) (by kernel_rfl) ?_
          refine wl_val (iN .i64 ((8 + k) - 8)) (by kernel_rfl) (run_sub (k := .i64) (a := 8 + k) (b := 8) (by kernel_rfl) (by kernel_rfl) (by omega) (by simp only [top]; omega)) ?_
          refine wl_val (.pointer (some ⟨q6, (8 + k) - 8, none⟩)) (by kernel_rfl) (addr_eq (by omega) (run_addr_k (k := .i64) (q := q6) (o := 0) (a := (8 + k) - 8) (m := 1) Try.underlying60 (fun w => Try.sizeOf38 w) (by kernel_rfl) (by kernel_rfl) (by omega))) ?_
          refine wl_val (bv .u32 ((sch s k).getD ((8 + k) - 8) 0)) (by kernel_rfl) (run_load1 (fun w => Try.isAgg38 w) (by kernel_rfl) (((h21.get 0 rfl).cell ((8 + k) - 8)).trans (padw_get _ _ _ (by rw [sch_len]; omega)))) ?_
          refine wl_val (bv .u32 ((sch s k).getD ((8 + k) - 1) 0)) (by kernel_rfl) (by kernel_rfl) ?_
          refine wl_val (bv .u32 (((sch s k).getD ((8 + k) - 8) 0) ^^^ ((sch s k).getD ((8 + k) - 1) 0))) (by kernel_rfl) (run_xorv WK.s (a := (sch s k).getD ((8 + k) - 8) 0) (b := (sch s k).getD ((8 + k) - 1) 0) (by kernel_rfl) (by kernel_rfl)) ?_
          refine wl_val (bv .u32 0#32) (by kernel_rfl) (by kernel_rfl) ?_
          refine wl_val (bv .u32 ((((sch s k).getD ((8 + k) - 8) 0) ^^^ ((sch s k).getD ((8 + k) - 1) 0)) ^^^ 0#32)) (by kernel_rfl) (run_xorv WK.s (a := ((sch s k).getD ((8 + k) - 8) 0) ^^^ ((sch s k).getD ((8 + k) - 1) 0)) (b := 0#32) (by kernel_rfl) (by kernel_rfl)) ?_
          refine wl_val (.pointer (some ⟨q6, 8 + k, none⟩)) (by kernel_rfl) (addr_eq (by omega) (run_addr_k (k := .i64) (q := q6) (o := 0) (a := 8 + k) (m := 1) Try.underlying60 (fun w => Try.sizeOf38 w) (by kernel_rfl) (by kernel_rfl) (by omega))) ?_
          refine wl_put (k := .u32) (z := ((((((sch s k).getD ((8 + k) - 8) 0) ^^^ ((sch s k).getD ((8 + k) - 1) 0)) ^^^ 0#32).toNat : Nat) : Int)) h21 0 rfl (8 + k) (by rw [wc_size, (pw_len (N := 60) (sch_len s k) (by omega))]; omega) (by kernel_rfl) (fun w => Try.sizeOf38 w) (by kernel_rfl) (by kernel_rfl) ?_
          intro w34 h35
          have h36 : HA w [(q6, 60, wc .u32 ((sch s k ++ [(((sch s k).getD ((8 + k) - 8) 0) ^^^ ((sch s k).getD ((8 + k) - 1) 0)) ^^^ 0#32]) ++ List.replicate (52 - (k + 1)) 0)), (q3, 59, cc (List.replicate 60 (0 : BitVec 32)))] w34 := by
            have e : (wc .u32 (sch s k ++ List.replicate (52 - k) 0)).setIfInBounds (8 + k) (.int .u32 ((((((sch s k).getD ((8 + k) - 8) 0) ^^^ ((sch s k).getD ((8 + k) - 1) 0)) ^^^ 0#32).toNat : Nat) : Int)) = wc .u32 ((sch s k ++ [(((sch s k).getD ((8 + k) - 8) 0) ^^^ ((sch s k).getD ((8 + k) - 1) 0)) ^^^ 0#32]) ++ List.replicate (52 - (k + 1)) 0) := (padw_put _ _ _ _ _ (sch_len s k) (by omega))
            rw [← e]; exact h35
          clear h35
          refine wl_nil ?_
          refine block_normal ?_
          refine then_at (F := ⟨(.string s :: un :: .pointer none :: pt q3 :: pt q6 :: u9 5 :: iN .i64 (8 + k) :: bv .u32 ((sch s k).getD ((8 + k) - 1) 0) :: bv .u32 0#32 :: un :: .agg (bc boxL) :: .agg (cc (List.replicate 60 (0 : BitVec 32))) :: pt q3 :: iN .i64 8 :: .bool false :: u9 15 :: u9 16 :: u9 17 :: u9 18 :: u9 19 :: u9 20 :: u9 21 :: u9 22 :: u9 23 :: u9 24 :: u9 25 :: u9 26 :: iN .i64 (8 + k) :: .bool true :: u19 29 :: u19 30 :: iN .i64 (8 + k) :: iN .i64 ((8 + k) - 1) :: .pointer (some ⟨q6, (8 + k) - 1, none⟩) :: bv .u32 ((sch s k).getD ((8 + k) - 1) 0) :: iN .i64 (8 + k) :: iN .i64 ((8 + k) % 8) :: .bool false :: .bool false :: .bool false :: .bool false :: u19 41 :: u19 42 :: u19 43 :: u19 44 :: u19 45 :: u19 46 :: u19 47 :: u19 48 :: u19 49 :: u19 50 :: u19 51 :: u19 52 :: u19 53 :: iN .i64 (8 + k) :: iN .i64 (8 + k) :: iN .i64 ((8 + k) - 8) :: .pointer (some ⟨q6, (8 + k) - 8, none⟩) :: bv .u32 ((sch s k).getD ((8 + k) - 8) 0) :: bv .u32 ((sch s k).getD ((8 + k) - 1) 0) :: bv .u32 (((sch s k).getD ((8 + k) - 8) 0) ^^^ ((sch s k).getD ((8 + k) - 1) 0)) :: bv .u32 0#32 :: bv .u32 ((((sch s k).getD ((8 + k) - 8) 0) ^^^ ((sch s k).getD ((8 + k) - 1) 0)) ^^^ 0#32) :: .pointer (some ⟨q6, 8 + k, none⟩) :: List.replicate 30 un).toArray, []⟩) (by kernel_rfl) ?_
          -- region 10
          refine wl_region ?_
          refine wl_val (iN .i64 (8 + k)) (by kernel_rfl) (by kernel_rfl) ?_
          refine wl_val (iN .i64 ((8 + k) + 1)) (by kernel_rfl) (run_add (k := .i64) (a := 8 + k) (b := 1) (by kernel_rfl) (by kernel_rfl) (by simp only [top]; omega)) ?_
          refine wl_val (iN .i64 ((8 + k) + 1)) (by kernel_rfl) (by kernel_rfl) ?_
          refine wl_nil ?_
          exact then_I ⟨fun ii => (([(7, bv .u32 ((sch s k).getD ((8 + k) - 1) 0)), (8, bv .u32 0#32), (27, iN .i64 (8 + k)), (28, .bool true), (29, iN .i64 (8 + k)), (30, iN .i64 ((8 + k) + 1)), (31, iN .i64 (8 + k)), (32, iN .i64 ((8 + k) - 1)), (33, .pointer (some ⟨q6, (8 + k) - 1, none⟩)), (34, bv .u32 ((sch s k).getD ((8 + k) - 1) 0)), (35, iN .i64 (8 + k)), (36, iN .i64 ((8 + k) % 8)), (37, .bool false), (38, .bool false), (39, .bool false), (40, .bool false), (41, u19 41), (42, u19 42), (43, u19 43), (44, u19 44), (45, u19 45), (46, u19 46), (47, u19 47), (48, u19 48), (49, u19 49), (50, u19 50), (51, u19 51), (52, u19 52), (53, u19 53), (54, iN .i64 (8 + k)), (55, iN .i64 (8 + k)), (56, iN .i64 ((8 + k) - 8)), (57, .pointer (some ⟨q6, (8 + k) - 8, none⟩)), (58, bv .u32 ((sch s k).getD ((8 + k) - 8) 0)), (59, bv .u32 ((sch s k).getD ((8 + k) - 1) 0)), (60, bv .u32 (((sch s k).getD ((8 + k) - 8) 0) ^^^ ((sch s k).getD ((8 + k) - 1) 0))), (61, bv .u32 0#32), (62, bv .u32 ((((sch s k).getD ((8 + k) - 8) 0) ^^^ ((sch s k).getD ((8 + k) - 1) 0)) ^^^ 0#32)), (63, .pointer (some ⟨q6, 8 + k, none⟩))] : List (Nat × Value)).find? (·.1 == ii)).elim undef (·.2), by kernel_rfl, (by rw [sch_c s k hc hd]; exact h36)⟩
    · rintro _ w37 ⟨u19, rfl, h38⟩
      refine wp_seq ?_
      refine wp_seq ?_
      -- region 9
      refine wl_region ?_
      refine wl_val (iN .i64 (8 + 52)) (by kernel_rfl) (by kernel_rfl) ?_
      refine wl_val (.bool false) (by kernel_rfl) (run_lss (k := .i64) (a := 8 + 52) (b := 60) (by kernel_rfl) (by kernel_rfl) false (decide_eq_false (by omega))) ?_
      refine wl_nil ?_
      refine then_at (F := ⟨(.string s :: un :: .pointer none :: pt q3 :: pt q6 :: u9 5 :: iN .i64 (8 + 52) :: u19 7 :: u19 8 :: un :: .agg (bc boxL) :: .agg (cc (List.replicate 60 (0 : BitVec 32))) :: pt q3 :: iN .i64 8 :: .bool false :: u9 15 :: u9 16 :: u9 17 :: u9 18 :: u9 19 :: u9 20 :: u9 21 :: u9 22 :: u9 23 :: u9 24 :: u9 25 :: u9 26 :: iN .i64 (8 + 52) :: .bool false :: u19 29 :: u19 30 :: u19 31 :: u19 32 :: u19 33 :: u19 34 :: u19 35 :: u19 36 :: u19 37 :: u19 38 :: u19 39 :: u19 40 :: u19 41 :: u19 42 :: u19 43 :: u19 44 :: u19 45 :: u19 46 :: u19 47 :: u19 48 :: u19 49 :: u19 50 :: u19 51 :: u19 52 :: u19 53 :: u19 54 :: u19 55 :: u19 56 :: u19 57 :: u19 58 :: u19 59 :: u19 60 :: u19 61 :: u19 62 :: u19 63 :: List.replicate 30 un).toArray, []⟩) (by kernel_rfl) ?_
      refine wp_cond_false (by kernel_rfl) ?_
      refine wp_exit ?_
      repeat first | refine then_exit ?_ | refine block_exit ?_ | refine block_exit_ne (by decide) ?_
      have h39 : HA w [(q6, 60, wc .u32 (kwS s)), (q3, 59, cc (List.replicate 60 (0 : BitVec 32)))] w37 := by
        have e : sch s 52 ++ List.replicate (52 - 52) 0 = kwS s := (List.append_nil (sch s 52))
        rw [e] at h38; exact h38
      clear h38
      have h40 : HA w [(q6, 60, wc .u32 (kwS s)), (q3, 59, cc (ck (kwS s) 0))] w37 := by
        have e : List.replicate 60 (0 : BitVec 32) = ck (kwS s) 0 := rfl
        rw [e] at h39; exact h39
      clear h39
      refine then_at (F := ⟨(.string s :: un :: .pointer none :: pt q3 :: pt q6 :: u9 5 :: iN .i64 (8 + 52) :: u19 7 :: u19 8 :: un :: .agg (bc boxL) :: .agg (cc (List.replicate 60 (0 : BitVec 32))) :: pt q3 :: iN .i64 8 :: .bool false :: u9 15 :: u9 16 :: u9 17 :: u9 18 :: u9 19 :: u9 20 :: u9 21 :: u9 22 :: u9 23 :: u9 24 :: u9 25 :: u9 26 :: iN .i64 (8 + 52) :: .bool false :: u19 29 :: u19 30 :: u19 31 :: u19 32 :: u19 33 :: u19 34 :: u19 35 :: u19 36 :: u19 37 :: u19 38 :: u19 39 :: u19 40 :: u19 41 :: u19 42 :: u19 43 :: u19 44 :: u19 45 :: u19 46 :: u19 47 :: u19 48 :: u19 49 :: u19 50 :: u19 51 :: u19 52 :: u19 53 :: u19 54 :: u19 55 :: u19 56 :: u19 57 :: u19 58 :: u19 59 :: u19 60 :: u19 61 :: u19 62 :: u19 63 :: List.replicate 30 un).toArray, []⟩) (by kernel_rfl) ?_
      refine wp_seq ?_
      refine wp_seq ?_
      -- region 19
      refine wl_region ?_
      refine wl_val (iN .i64 0) (by kernel_rfl) (by kernel_rfl) ?_
      refine wl_nil ?_
      refine then_at (F := ⟨(.string s :: un :: .pointer none :: pt q3 :: pt q6 :: u9 5 :: iN .i64 (8 + 52) :: u19 7 :: u19 8 :: un :: .agg (bc boxL) :: .agg (cc (List.replicate 60 (0 : BitVec 32))) :: pt q3 :: iN .i64 8 :: .bool false :: u9 15 :: u9 16 :: u9 17 :: u9 18 :: u9 19 :: u9 20 :: u9 21 :: u9 22 :: u9 23 :: u9 24 :: u9 25 :: u9 26 :: iN .i64 (8 + 52) :: .bool false :: u19 29 :: u19 30 :: u19 31 :: u19 32 :: u19 33 :: u19 34 :: u19 35 :: u19 36 :: u19 37 :: u19 38 :: u19 39 :: u19 40 :: u19 41 :: u19 42 :: u19 43 :: u19 44 :: u19 45 :: u19 46 :: u19 47 :: u19 48 :: u19 49 :: u19 50 :: u19 51 :: u19 52 :: u19 53 :: u19 54 :: u19 55 :: u19 56 :: u19 57 :: u19 58 :: u19 59 :: u19 60 :: u19 61 :: u19 62 :: u19 63 :: iN .i64 0 :: List.replicate 29 un).toArray, []⟩) (by kernel_rfl) ?_
      refine wp_block ?_
      refine wp_count (fun k A w' => ∃ u41 : Nat → Value, A = ⟨(.string s :: un :: .pointer none :: pt q3 :: pt q6 :: u9 5 :: iN .i64 (8 + 52) :: u19 7 :: u19 8 :: u41 9 :: .agg (bc boxL) :: .agg (cc (List.replicate 60 (0 : BitVec 32))) :: pt q3 :: iN .i64 8 :: .bool false :: u9 15 :: u9 16 :: u9 17 :: u9 18 :: u9 19 :: u9 20 :: u9 21 :: u9 22 :: u9 23 :: u9 24 :: u9 25 :: u9 26 :: iN .i64 (8 + 52) :: .bool false :: u19 29 :: u19 30 :: u19 31 :: u19 32 :: u19 33 :: u19 34 :: u19 35 :: u19 36 :: u19 37 :: u19 38 :: u19 39 :: u19 40 :: u19 41 :: u19 42 :: u19 43 :: u19 44 :: u19 45 :: u19 46 :: u19 47 :: u19 48 :: u19 49 :: u19 50 :: u19 51 :: u19 52 :: u19 53 :: u19 54 :: u19 55 :: u19 56 :: u19 57 :: u19 58 :: u19 59 :: u19 60 :: u19 61 :: u19 62 :: u19 63 :: iN .i64 k :: u41 65 :: u41 66 :: u41 67 :: u41 68 :: u41 69 :: u41 70 :: u41 71 :: u41 72 :: u41 73 :: u41 74 :: u41 75 :: u41 76 :: u41 77 :: u41 78 :: u41 79 :: u41 80 :: u41 81 :: u41 82 :: u41 83 :: u41 84 :: u41 85 :: u41 86 :: u41 87 :: u41 88 :: u41 89 :: u41 90 :: u41 91 :: u41 92 :: List.replicate 1 un).toArray, []⟩ ∧ HA w [(q6, 60, wc .u32 (kwS s)), (q3, 59, cc (ck (kwS s) k))] w') 15 ?_ ?_ ?_
      · exact ⟨fun ii => (([(9, undef), (65, undef), (66, undef), (67, undef), (68, undef), (69, undef), (70, undef), (71, undef), (72, undef), (73, undef), (74, undef), (75, undef), (76, undef), (77, undef), (78, undef), (79, undef), (80, undef), (81, undef), (82, undef), (83, undef), (84, undef), (85, undef), (86, undef), (87, undef), (88, undef), (89, undef), (90, undef), (91, undef), (92, undef)] : List (Nat × Value)).find? (·.1 == ii)).elim undef (·.2), by kernel_rfl, h40⟩
      · rintro k hk _ w42 ⟨u41, rfl, h43⟩
        refine wp_seq ?_
        -- region 20
        refine wl_region ?_
        refine wl_val (.bool true) (by kernel_rfl) (run_lss (k := .i64) (a := k) (b := 15) (by kernel_rfl) (by kernel_rfl) true (decide_eq_true (by omega))) ?_
        refine wl_nil ?_
        refine then_at (F := ⟨(.string s :: un :: .pointer none :: pt q3 :: pt q6 :: u9 5 :: iN .i64 (8 + 52) :: u19 7 :: u19 8 :: u41 9 :: .agg (bc boxL) :: .agg (cc (List.replicate 60 (0 : BitVec 32))) :: pt q3 :: iN .i64 8 :: .bool false :: u9 15 :: u9 16 :: u9 17 :: u9 18 :: u9 19 :: u9 20 :: u9 21 :: u9 22 :: u9 23 :: u9 24 :: u9 25 :: u9 26 :: iN .i64 (8 + 52) :: .bool false :: u19 29 :: u19 30 :: u19 31 :: u19 32 :: u19 33 :: u19 34 :: u19 35 :: u19 36 :: u19 37 :: u19 38 :: u19 39 :: u19 40 :: u19 41 :: u19 42 :: u19 43 :: u19 44 :: u19 45 :: u19 46 :: u19 47 :: u19 48 :: u19 49 :: u19 50 :: u19 51 :: u19 52 :: u19 53 :: u19 54 :: u19 55 :: u19 56 :: u19 57 :: u19 58 :: u19 59 :: u19 60 :: u19 61 :: u19 62 :: u19 63 :: iN .i64 k :: .bool true :: u41 66 :: u41 67 :: u41 68 :: u41 69 :: u41 70 :: u41 71 :: u41 72 :: u41 73 :: u41 74 :: u41 75 :: u41 76 :: u41 77 :: u41 78 :: u41 79 :: u41 80 :: u41 81 :: u41 82 :: u41 83 :: u41 84 :: u41 85 :: u41 86 :: u41 87 :: u41 88 :: u41 89 :: u41 90 :: u41 91 :: u41 92 :: List.replicate 1 un).toArray, []⟩) (by kernel_rfl) ?_
        refine wp_seq ?_
        refine wp_cond_true (by kernel_rfl) ?_
        refine wp_skip ?_
        refine then_at (F := ⟨(.string s :: un :: .pointer none :: pt q3 :: pt q6 :: u9 5 :: iN .i64 (8 + 52) :: u19 7 :: u19 8 :: u41 9 :: .agg (bc boxL) :: .agg (cc (List.replicate 60 (0 : BitVec 32))) :: pt q3 :: iN .i64 8 :: .bool false :: u9 15 :: u9 16 :: u9 17 :: u9 18 :: u9 19 :: u9 20 :: u9 21 :: u9 22 :: u9 23 :: u9 24 :: u9 25 :: u9 26 :: iN .i64 (8 + 52) :: .bool false :: u19 29 :: u19 30 :: u19 31 :: u19 32 :: u19 33 :: u19 34 :: u19 35 :: u19 36 :: u19 37 :: u19 38 :: u19 39 :: u19 40 :: u19 41 :: u19 42 :: u19 43 :: u19 44 :: u19 45 :: u19 46 :: u19 47 :: u19 48 :: u19 49 :: u19 50 :: u19 51 :: u19 52 :: u19 53 :: u19 54 :: u19 55 :: u19 56 :: u19 57 :: u19 58 :: u19 59 :: u19 60 :: u19 61 :: u19 62 :: u19 63 :: iN .i64 k :: .bool true :: u41 66 :: u41 67 :: u41 68 :: u41 69 :: u41 70 :: u41 71 :: u41 72 :: u41 73 :: u41 74 :: u41 75 :: u41 76 :: u41 77 :: u41 78 :: u41 79 :: u41 80 :: u41 81 :: u41 82 :: u41 83 :: u41 84 :: u41 85 :: u41 86 :: u41 87 :: u41 88 :: u41 89 :: u41 90 :: u41 91 :: u41 92 :: List.replicate 1 un).toArray, []⟩) (by kernel_rfl) ?_
        refine wp_seq ?_
        refine wp_block ?_
        refine wp_seq ?_
        -- region 21
        refine wl_region ?_
        refine wl_val (iN .i64 k) (by kernel_rfl) (by kernel_rfl) ?_
        refine wl_val (iN .i64 k) (by kernel_rfl) (by kernel_rfl) ?_
        refine wl_nil ?_
        refine then_at (F := ⟨(.string s :: un :: .pointer none :: pt q3 :: pt q6 :: u9 5 :: iN .i64 (8 + 52) :: u19 7 :: u19 8 :: iN .i64 k :: .agg (bc boxL) :: .agg (cc (List.replicate 60 (0 : BitVec 32))) :: pt q3 :: iN .i64 8 :: .bool false :: u9 15 :: u9 16 :: u9 17 :: u9 18 :: u9 19 :: u9 20 :: u9 21 :: u9 22 :: u9 23 :: u9 24 :: u9 25 :: u9 26 :: iN .i64 (8 + 52) :: .bool false :: u19 29 :: u19 30 :: u19 31 :: u19 32 :: u19 33 :: u19 34 :: u19 35 :: u19 36 :: u19 37 :: u19 38 :: u19 39 :: u19 40 :: u19 41 :: u19 42 :: u19 43 :: u19 44 :: u19 45 :: u19 46 :: u19 47 :: u19 48 :: u19 49 :: u19 50 :: u19 51 :: u19 52 :: u19 53 :: u19 54 :: u19 55 :: u19 56 :: u19 57 :: u19 58 :: u19 59 :: u19 60 :: u19 61 :: u19 62 :: u19 63 :: iN .i64 k :: .bool true :: iN .i64 k :: u41 67 :: u41 68 :: u41 69 :: u41 70 :: u41 71 :: u41 72 :: u41 73 :: u41 74 :: u41 75 :: u41 76 :: u41 77 :: u41 78 :: u41 79 :: u41 80 :: u41 81 :: u41 82 :: u41 83 :: u41 84 :: u41 85 :: u41 86 :: u41 87 :: u41 88 :: u41 89 :: u41 90 :: u41 91 :: u41 92 :: List.replicate 1 un).toArray, []⟩) (by kernel_rfl) ?_
        -- region 22
        refine wp_region_ghost (fun _ : Nat → Nat => (⟨(.string s :: un :: .pointer none :: pt q3 :: pt q6 :: u9 5 :: iN .i64 (8 + 52) :: u19 7 :: u19 8 :: iN .i64 k :: .agg (bc boxL) :: .agg (cc (List.replicate 60 (0 : BitVec 32))) :: pt q3 :: iN .i64 8 :: .bool false :: u9 15 :: u9 16 :: u9 17 :: u9 18 :: u9 19 :: u9 20 :: u9 21 :: u9 22 :: u9 23 :: u9 24 :: u9 25 :: u9 26 :: iN .i64 (8 + 52) :: .bool false :: u19 29 :: u19 30 :: u19 31 :: u19 32 :: u19 33 :: u19 34 :: u19 35 :: u19 36 :: u19 37 :: u19 38 :: u19 39 :: u19 40 :: u19 41 :: u19 42 :: u19 43 :: u19 44 :: u19 45 :: u19 46 :: u19 47 :: u19 48 :: u19 49 :: u19 50 :: u19 51 :: u19 52 :: u19 53 :: u19 54 :: u19 55 :: u19 56 :: u19 57 :: u19 58 :: u19 59 :: u19 60 :: u19 61 :: u19 62 :: u19 63 :: iN .i64 k :: .bool true :: iN .i64 k :: pt q3 :: iN .i64 k :: iN .i64 k :: iN .i64 (4 * k) :: .pointer (some ⟨q6, 4 * k, none⟩) :: bv .u32 ((kwS s).getD (4 * k) 0) :: iN .i64 k :: iN .i64 (4 * k) :: iN .i64 ((4 * k) + 1) :: .pointer (some ⟨q6, (4 * k) + 1, none⟩) :: bv .u32 ((kwS s).getD ((4 * k) + 1) 0) :: iN .i64 k :: iN .i64 (4 * k) :: iN .i64 ((4 * k) + 2) :: .pointer (some ⟨q6, (4 * k) + 2, none⟩) :: bv .u32 ((kwS s).getD ((4 * k) + 2) 0) :: iN .i64 k :: iN .i64 (4 * k) :: iN .i64 ((4 * k) + 3) :: .pointer (some ⟨q6, (4 * k) + 3, none⟩) :: bv .u32 ((kwS s).getD ((4 * k) + 3) 0) :: .agg (qc (rk (kwS s) k)) :: pt q3 :: .pointer (some ⟨q3, 256, none⟩) :: .pointer (some ⟨q3, 256 + k * 4, none⟩) :: u41 92 :: List.replicate 1 un).toArray, []⟩ : Act)) (GQ w [(q6, 60, wc .u32 (kwS s)), (q3, 59, cc (ck (kwS s) k))] (fun i => ([[], [], [], [2], [3], [4], [], [6], [7], [8], [9], [], [11], [12], [13], [14], [], [16], [17], [18], [19], [5, 10, 15, 20], [0], [22], [23, 1], [24, 21]] : List (List Nat)).getD i []) 25 1 q3 59 (cc (ck (kwS s) (k + 1)))) [.pointer (some ⟨q3, 0, none⟩), iN .i64 k, iN .i64 k, iN .i64 (4 * k), .pointer (some ⟨q6, 4 * k, none⟩), bv .u32 ((kwS s).getD (4 * k) 0), iN .i64 k, iN .i64 (4 * k), iN .i64 ((4 * k) + 1), .pointer (some ⟨q6, (4 * k) + 1, none⟩), bv .u32 ((kwS s).getD ((4 * k) + 1) 0), iN .i64 k, iN .i64 (4 * k), iN .i64 ((4 * k) + 2), .pointer (some ⟨q6, (4 * k) + 2, none⟩), bv .u32 ((kwS s).getD ((4 * k) + 2) 0), iN .i64 k, iN .i64 (4 * k), iN .i64 ((4 * k) + 3), .pointer (some ⟨q6, (4 * k) + 3, none⟩), bv .u32 ((kwS s).getD ((4 * k) + 3) 0), .agg (qc (rk (kwS s) k)), .pointer (some ⟨q3, 0, none⟩), .pointer (some ⟨q3, 256, none⟩), .pointer (some ⟨q3, 256 + k * 4, none⟩), undef] (by kernel_rfl) (by kernel_rfl) (by kernel_rfl) (by kernel_rfl) (fun _ _ _ _ h => h) (fun d hd => GQ.start h43.drew (hd 25 (by decide)) (Cl.start (n := 26) hd (by decide))) ?_ ?_
        · refine AllGhost.cons (gq_plain (v := .pointer (some ⟨q3, 0, none⟩)) (by decide) (by kernel_rfl) (fun _ => by kernel_rfl) (fun _ => by kernel_rfl) (fun _ _ => (by kernel_rfl))) ?_
          refine AllGhost.cons (gq_plain (v := iN .i64 k) (by decide) (by kernel_rfl) (fun _ => by kernel_rfl) (fun _ => by kernel_rfl) (fun _ _ => (by kernel_rfl))) ?_
          refine AllGhost.cons (gq_plain (v := iN .i64 k) (by decide) (by kernel_rfl) (fun _ => by kernel_rfl) (fun _ => by kernel_rfl) (fun _ _ => (by kernel_rfl))) ?_
          refine AllGhost.cons (gq_plain (v := iN .i64 (4 * k)) (by decide) (by kernel_rfl) (fun _ => by kernel_rfl) (fun _ => by kernel_rfl) (fun _ _ => (run_mul (k := .i64) (a := 4) (b := k) (by kernel_rfl) (by kernel_rfl) (by simp only [top]; omega)))) ?_
          refine AllGhost.cons (gq_plain (v := .pointer (some ⟨q6, 4 * k, none⟩)) (by decide) (by kernel_rfl) (fun _ => by kernel_rfl) (fun _ => by kernel_rfl) (fun _ _ => (addr_eq (by omega) (run_addr_k (k := .i64) (q := q6) (o := 0) (a := 4 * k) (m := 1) Try.underlying60 (fun w => Try.sizeOf38 w) (by kernel_rfl) (by kernel_rfl) (by omega))))) ?_
          refine AllGhost.cons (gq_read (v := bv .u32 ((kwS s).getD (4 * k) 0)) 0 rfl (.inl (by decide)) (by decide) (by kernel_rfl) (fun _ => by kernel_rfl) (fun _ => by kernel_rfl) (fun _ _ hb => run_load1 (fun w => Try.isAgg38 w) (by kernel_rfl) ((hb.cell (4 * k)).trans (wc_get .u32 (kwS s) (4 * k) (by rw [(kwS_len s)]; omega))))) ?_
          refine AllGhost.cons (gq_plain (v := iN .i64 k) (by decide) (by kernel_rfl) (fun _ => by kernel_rfl) (fun _ => by kernel_rfl) (fun _ _ => (by kernel_rfl))) ?_
          refine AllGhost.cons (gq_plain (v := iN .i64 (4 * k)) (by decide) (by kernel_rfl) (fun _ => by kernel_rfl) (fun _ => by kernel_rfl) (fun _ _ => (run_mul (k := .i64) (a := 4) (b := k) (by kernel_rfl) (by kernel_rfl) (by simp only [top]; omega)))) ?_
          refine AllGhost.cons (gq_plain (v := iN .i64 ((4 * k) + 1)) (by decide) (by kernel_rfl) (fun _ => by kernel_rfl) (fun _ => by kernel_rfl) (fun _ _ => (run_add (k := .i64) (a := 4 * k) (b := 1) (by kernel_rfl) (by kernel_rfl) (by simp only [top]; omega)))) ?_
          refine AllGhost.cons (gq_plain (v := .pointer (some ⟨q6, (4 * k) + 1, none⟩)) (by decide) (by kernel_rfl) (fun _ => by kernel_rfl) (fun _ => by kernel_rfl) (fun _ _ => (addr_eq (by omega) (run_addr_k (k := .i64) (q := q6) (o := 0) (a := (4 * k) + 1) (m := 1) Try.underlying60 (fun w => Try.sizeOf38 w) (by kernel_rfl) (by kernel_rfl) (by omega))))) ?_
          refine AllGhost.cons (gq_read (v := bv .u32 ((kwS s).getD ((4 * k) + 1) 0)) 0 rfl (.inl (by decide)) (by decide) (by kernel_rfl) (fun _ => by kernel_rfl) (fun _ => by kernel_rfl) (fun _ _ hb => run_load1 (fun w => Try.isAgg38 w) (by kernel_rfl) ((hb.cell ((4 * k) + 1)).trans (wc_get .u32 (kwS s) ((4 * k) + 1) (by rw [(kwS_len s)]; omega))))) ?_
          refine AllGhost.cons (gq_plain (v := iN .i64 k) (by decide) (by kernel_rfl) (fun _ => by kernel_rfl) (fun _ => by kernel_rfl) (fun _ _ => (by kernel_rfl))) ?_
          refine AllGhost.cons (gq_plain (v := iN .i64 (4 * k)) (by decide) (by kernel_rfl) (fun _ => by kernel_rfl) (fun _ => by kernel_rfl) (fun _ _ => (run_mul (k := .i64) (a := 4) (b := k) (by kernel_rfl) (by kernel_rfl) (by simp only [top]; omega)))) ?_
          refine AllGhost.cons (gq_plain (v := iN .i64 ((4 * k) + 2)) (by decide) (by kernel_rfl) (fun _ => by kernel_rfl) (fun _ => by kernel_rfl) (fun _ _ => (run_add (k := .i64) (a := 4 * k) (b := 2) (by kernel_rfl) (by kernel_rfl) (by simp only [top]; omega)))) ?_
          refine AllGhost.cons (gq_plain (v := .pointer (some ⟨q6, (4 * k) + 2, none⟩)) (by decide) (by kernel_rfl) (fun _ => by kernel_rfl) (fun _ => by kernel_rfl) (fun _ _ => (addr_eq (by omega) (run_addr_k (k := .i64) (q := q6) (o := 0) (a := (4 * k) + 2) (m := 1) Try.underlying60 (fun w => Try.sizeOf38 w) (by kernel_rfl) (by kernel_rfl) (by omega))))) ?_
          refine AllGhost.cons (gq_read (v := bv .u32 ((kwS s).getD ((4 * k) + 2) 0)) 0 rfl (.inl (by decide)) (by decide) (by kernel_rfl) (fun _ => by kernel_rfl) (fun _ => by kernel_rfl) (fun _ _ hb => run_load1 (fun w => Try.isAgg38 w) (by kernel_rfl) ((hb.cell ((4 * k) + 2)).trans (wc_get .u32 (kwS s) ((4 * k) + 2) (by rw [(kwS_len s)]; omega))))) ?_
          refine AllGhost.cons (gq_plain (v := iN .i64 k) (by decide) (by kernel_rfl) (fun _ => by kernel_rfl) (fun _ => by kernel_rfl) (fun _ _ => (by kernel_rfl))) ?_
          refine AllGhost.cons (gq_plain (v := iN .i64 (4 * k)) (by decide) (by kernel_rfl) (fun _ => by kernel_rfl) (fun _ => by kernel_rfl) (fun _ _ => (run_mul (k := .i64) (a := 4) (b := k) (by kernel_rfl) (by kernel_rfl) (by simp only [top]; omega)))) ?_
          refine AllGhost.cons (gq_plain (v := iN .i64 ((4 * k) + 3)) (by decide) (by kernel_rfl) (fun _ => by kernel_rfl) (fun _ => by kernel_rfl) (fun _ _ => (run_add (k := .i64) (a := 4 * k) (b := 3) (by kernel_rfl) (by kernel_rfl) (by simp only [top]; omega)))) ?_
          refine AllGhost.cons (gq_plain (v := .pointer (some ⟨q6, (4 * k) + 3, none⟩)) (by decide) (by kernel_rfl) (fun _ => by kernel_rfl) (fun _ => by kernel_rfl) (fun _ _ => (addr_eq (by omega) (run_addr_k (k := .i64) (q := q6) (o := 0) (a := (4 * k) + 3) (m := 1) Try.underlying60 (fun w => Try.sizeOf38 w) (by kernel_rfl) (by kernel_rfl) (by omega))))) ?_
          refine AllGhost.cons (gq_read (v := bv .u32 ((kwS s).getD ((4 * k) + 3) 0)) 0 rfl (.inl (by decide)) (by decide) (by kernel_rfl) (fun _ => by kernel_rfl) (fun _ => by kernel_rfl) (fun _ _ hb => run_load1 (fun w => Try.isAgg38 w) (by kernel_rfl) ((hb.cell ((4 * k) + 3)).trans (wc_get .u32 (kwS s) ((4 * k) + 3) (by rw [(kwS_len s)]; omega))))) ?_
          refine AllGhost.cons (gq_plain (v := .agg (qc (rk (kwS s) k))) (by decide) (by kernel_rfl) (fun _ => by kernel_rfl) (fun _ => by kernel_rfl) (fun _ _ => (run_build40 (a := (kwS s).getD (4 * k) 0) (b := (kwS s).getD ((4 * k) + 1) 0) (d := (kwS s).getD ((4 * k) + 2) 0) (e := (kwS s).getD ((4 * k) + 3) 0) (by kernel_rfl) (by kernel_rfl) (by kernel_rfl) (by kernel_rfl)))) ?_
          refine AllGhost.cons (gq_plain (v := .pointer (some ⟨q3, 0, none⟩)) (by decide) (by kernel_rfl) (fun _ => by kernel_rfl) (fun _ => by kernel_rfl) (fun _ _ => (run_nil (q := q3) (by kernel_rfl)))) ?_
          refine AllGhost.cons (gq_plain (v := .pointer (some ⟨q3, 256, none⟩)) (by decide) (by kernel_rfl) (fun _ => by kernel_rfl) (fun _ => by kernel_rfl) (fun _ _ => (by kernel_rfl))) ?_
          refine AllGhost.cons (gq_plain (v := .pointer (some ⟨q3, 256 + k * 4, none⟩)) (by decide) (by kernel_rfl) (fun _ => by kernel_rfl) (fun _ => by kernel_rfl) (fun _ _ => (run_addr_k (k := .i64) (q := q3) (o := 256) (a := k) (m := 4) Try.underlying57 (fun w => Try.sizeOf40 w) (by kernel_rfl) (by kernel_rfl) (by omega)))) ?_
          refine AllGhost.cons (gq_part (off := 256 + k * 4) (c1 := qc (rk (kwS s) k)) rfl (by rw [cc_size, (ck_len (kwS s) k (kwS_len s) (by omega)), qc_size]; omega) (cc_part (kwS s) k (kwS_len s) hk) (info40 (rk (kwS s) k)) (one_qc (rk (kwS s) k)) (by kernel_rfl) (fun _ => by kernel_rfl) (fun _ => by kernel_rfl) (fun _ => by kernel_rfl) (fun _ => by kernel_rfl)) ?_
          exact AllGhost.nil
        intro _ w44 g45
        have h46 : HA w [(q6, 60, wc .u32 (kwS s)), (q3, 59, cc (ck (kwS s) (k + 1)))] w44 := g45.held
        clear g45
        refine block_normal ?_
        refine then_at (F := ⟨(.string s :: un :: .pointer none :: pt q3 :: pt q6 :: u9 5 :: iN .i64 (8 + 52) :: u19 7 :: u19 8 :: iN .i64 k :: .agg (bc boxL) :: .agg (cc (List.replicate 60 (0 : BitVec 32))) :: pt q3 :: iN .i64 8 :: .bool false :: u9 15 :: u9 16 :: u9 17 :: u9 18 :: u9 19 :: u9 20 :: u9 21 :: u9 22 :: u9 23 :: u9 24 :: u9 25 :: u9 26 :: iN .i64 (8 + 52) :: .bool false :: u19 29 :: u19 30 :: u19 31 :: u19 32 :: u19 33 :: u19 34 :: u19 35 :: u19 36 :: u19 37 :: u19 38 :: u19 39 :: u19 40 :: u19 41 :: u19 42 :: u19 43 :: u19 44 :: u19 45 :: u19 46 :: u19 47 :: u19 48 :: u19 49 :: u19 50 :: u19 51 :: u19 52 :: u19 53 :: u19 54 :: u19 55 :: u19 56 :: u19 57 :: u19 58 :: u19 59 :: u19 60 :: u19 61 :: u19 62 :: u19 63 :: iN .i64 k :: .bool true :: iN .i64 k :: pt q3 :: iN .i64 k :: iN .i64 k :: iN .i64 (4 * k) :: .pointer (some ⟨q6, 4 * k, none⟩) :: bv .u32 ((kwS s).getD (4 * k) 0) :: iN .i64 k :: iN .i64 (4 * k) :: iN .i64 ((4 * k) + 1) :: .pointer (some ⟨q6, (4 * k) + 1, none⟩) :: bv .u32 ((kwS s).getD ((4 * k) + 1) 0) :: iN .i64 k :: iN .i64 (4 * k) :: iN .i64 ((4 * k) + 2) :: .pointer (some ⟨q6, (4 * k) + 2, none⟩) :: bv .u32 ((kwS s).getD ((4 * k) + 2) 0) :: iN .i64 k :: iN .i64 (4 * k) :: iN .i64 ((4 * k) + 3) :: .pointer (some ⟨q6, (4 * k) + 3, none⟩) :: bv .u32 ((kwS s).getD ((4 * k) + 3) 0) :: .agg (qc (rk (kwS s) k)) :: pt q3 :: .pointer (some ⟨q3, 256, none⟩) :: .pointer (some ⟨q3, 256 + k * 4, none⟩) :: u41 92 :: List.replicate 1 un).toArray, []⟩) (by kernel_rfl) ?_
        -- region 23
        refine wl_region ?_
        refine wl_val (iN .i64 (k + 1)) (by kernel_rfl) (run_add (k := .i64) (a := k) (b := 1) (by kernel_rfl) (by kernel_rfl) (by simp only [top]; omega)) ?_
        refine wl_val (iN .i64 (k + 1)) (by kernel_rfl) (by kernel_rfl) ?_
        refine wl_nil ?_
        exact then_I ⟨fun ii => (([(9, iN .i64 k), (65, .bool true), (66, iN .i64 k), (67, .pointer (some ⟨q3, 0, none⟩)), (68, iN .i64 k), (69, iN .i64 k), (70, iN .i64 (4 * k)), (71, .pointer (some ⟨q6, 4 * k, none⟩)), (72, bv .u32 ((kwS s).getD (4 * k) 0)), (73, iN .i64 k), (74, iN .i64 (4 * k)), (75, iN .i64 ((4 * k) + 1)), (76, .pointer (some ⟨q6, (4 * k) + 1, none⟩)), (77, bv .u32 ((kwS s).getD ((4 * k) + 1) 0)), (78, iN .i64 k), (79, iN .i64 (4 * k)), (80, iN .i64 ((4 * k) + 2)), (81, .pointer (some ⟨q6, (4 * k) + 2, none⟩)), (82, bv .u32 ((kwS s).getD ((4 * k) + 2) 0)), (83, iN .i64 k), (84, iN .i64 (4 * k)), (85, iN .i64 ((4 * k) + 3)), (86, .pointer (some ⟨q6, (4 * k) + 3, none⟩)), (87, bv .u32 ((kwS s).getD ((4 * k) + 3) 0)), (88, .agg (qc (rk (kwS s) k))), (89, .pointer (some ⟨q3, 0, none⟩)), (90, .pointer (some ⟨q3, 256, none⟩)), (91, .pointer (some ⟨q3, 256 + k * 4, none⟩)), (92, iN .i64 (k + 1))] : List (Nat × Value)).find? (·.1 == ii)).elim undef (·.2), by kernel_rfl, h46⟩
      · rintro _ w47 ⟨u41, rfl, h48⟩
        refine wp_seq ?_
        -- region 20
        refine wl_region ?_
        refine wl_val (.bool false) (by kernel_rfl) (run_lss (k := .i64) (a := 15) (b := 15) (by kernel_rfl) (by kernel_rfl) false (by decide)) ?_
        refine wl_nil ?_
        refine then_at (F := ⟨(.string s :: un :: .pointer none :: pt q3 :: pt q6 :: u9 5 :: iN .i64 (8 + 52) :: u19 7 :: u19 8 :: u41 9 :: .agg (bc boxL) :: .agg (cc (List.replicate 60 (0 : BitVec 32))) :: pt q3 :: iN .i64 8 :: .bool false :: u9 15 :: u9 16 :: u9 17 :: u9 18 :: u9 19 :: u9 20 :: u9 21 :: u9 22 :: u9 23 :: u9 24 :: u9 25 :: u9 26 :: iN .i64 (8 + 52) :: .bool false :: u19 29 :: u19 30 :: u19 31 :: u19 32 :: u19 33 :: u19 34 :: u19 35 :: u19 36 :: u19 37 :: u19 38 :: u19 39 :: u19 40 :: u19 41 :: u19 42 :: u19 43 :: u19 44 :: u19 45 :: u19 46 :: u19 47 :: u19 48 :: u19 49 :: u19 50 :: u19 51 :: u19 52 :: u19 53 :: u19 54 :: u19 55 :: u19 56 :: u19 57 :: u19 58 :: u19 59 :: u19 60 :: u19 61 :: u19 62 :: u19 63 :: iN .i64 15 :: .bool false :: u41 66 :: u41 67 :: u41 68 :: u41 69 :: u41 70 :: u41 71 :: u41 72 :: u41 73 :: u41 74 :: u41 75 :: u41 76 :: u41 77 :: u41 78 :: u41 79 :: u41 80 :: u41 81 :: u41 82 :: u41 83 :: u41 84 :: u41 85 :: u41 86 :: u41 87 :: u41 88 :: u41 89 :: u41 90 :: u41 91 :: u41 92 :: List.replicate 1 un).toArray, []⟩) (by kernel_rfl) ?_
        refine wp_seq ?_
        refine wp_cond_false (by kernel_rfl) ?_
        refine wp_exit ?_
        repeat first | refine then_exit ?_ | refine block_exit ?_ | refine block_exit_ne (by decide) ?_
        have h49 : HA w [(q6, 60, wc .u32 (kwS s)), (q3, 59, cc (kwS s))] w47 := by
          have e : ck (kwS s) 15 = kwS s := (by unfold ck; rw [List.take_of_length_le (by rw [kwS_len]; omega)]; exact List.append_nil _)
          rw [e] at h48; exact h48
        clear h48
        refine then_at (F := ⟨(.string s :: un :: .pointer none :: pt q3 :: pt q6 :: u9 5 :: iN .i64 (8 + 52) :: u19 7 :: u19 8 :: u41 9 :: .agg (bc boxL) :: .agg (cc (List.replicate 60 (0 : BitVec 32))) :: pt q3 :: iN .i64 8 :: .bool false :: u9 15 :: u9 16 :: u9 17 :: u9 18 :: u9 19 :: u9 20 :: u9 21 :: u9 22 :: u9 23 :: u9 24 :: u9 25 :: u9 26 :: iN .i64 (8 + 52) :: .bool false :: u19 29 :: u19 30 :: u19 31 :: u19 32 :: u19 33 :: u19 34 :: u19 35 :: u19 36 :: u19 37 :: u19 38 :: u19 39 :: u19 40 :: u19 41 :: u19 42 :: u19 43 :: u19 44 :: u19 45 :: u19 46 :: u19 47 :: u19 48 :: u19 49 :: u19 50 :: u19 51 :: u19 52 :: u19 53 :: u19 54 :: u19 55 :: u19 56 :: u19 57 :: u19 58 :: u19 59 :: u19 60 :: u19 61 :: u19 62 :: u19 63 :: iN .i64 15 :: .bool false :: u41 66 :: u41 67 :: u41 68 :: u41 69 :: u41 70 :: u41 71 :: u41 72 :: u41 73 :: u41 74 :: u41 75 :: u41 76 :: u41 77 :: u41 78 :: u41 79 :: u41 80 :: u41 81 :: u41 82 :: u41 83 :: u41 84 :: u41 85 :: u41 86 :: u41 87 :: u41 88 :: u41 89 :: u41 90 :: u41 91 :: u41 92 :: List.replicate 1 un).toArray, []⟩) (by kernel_rfl) ?_
        refine wp_seq ?_
        -- region 24
        refine wl_region ?_
        refine wl_val (.pointer (some ⟨q3, 0, none⟩)) (by kernel_rfl) (by kernel_rfl) ?_
        refine wl_val (.pointer (some ⟨q3, 0, none⟩)) (by kernel_rfl) (by kernel_rfl) ?_
        refine wl_nil ?_
        refine then_at (F := ⟨(.string s :: un :: pt q3 :: pt q3 :: pt q6 :: u9 5 :: iN .i64 (8 + 52) :: u19 7 :: u19 8 :: u41 9 :: .agg (bc boxL) :: .agg (cc (List.replicate 60 (0 : BitVec 32))) :: pt q3 :: iN .i64 8 :: .bool false :: u9 15 :: u9 16 :: u9 17 :: u9 18 :: u9 19 :: u9 20 :: u9 21 :: u9 22 :: u9 23 :: u9 24 :: u9 25 :: u9 26 :: iN .i64 (8 + 52) :: .bool false :: u19 29 :: u19 30 :: u19 31 :: u19 32 :: u19 33 :: u19 34 :: u19 35 :: u19 36 :: u19 37 :: u19 38 :: u19 39 :: u19 40 :: u19 41 :: u19 42 :: u19 43 :: u19 44 :: u19 45 :: u19 46 :: u19 47 :: u19 48 :: u19 49 :: u19 50 :: u19 51 :: u19 52 :: u19 53 :: u19 54 :: u19 55 :: u19 56 :: u19 57 :: u19 58 :: u19 59 :: u19 60 :: u19 61 :: u19 62 :: u19 63 :: iN .i64 15 :: .bool false :: u41 66 :: u41 67 :: u41 68 :: u41 69 :: u41 70 :: u41 71 :: u41 72 :: u41 73 :: u41 74 :: u41 75 :: u41 76 :: u41 77 :: u41 78 :: u41 79 :: u41 80 :: u41 81 :: u41 82 :: u41 83 :: u41 84 :: u41 85 :: u41 86 :: u41 87 :: u41 88 :: u41 89 :: u41 90 :: u41 91 :: u41 92 :: pt q3 :: List.replicate 0 un).toArray, []⟩) (by kernel_rfl) ?_
        refine wp_ret ?_
        repeat first | refine then_ret ?_ | refine block_ret ?_
        exact bodyPost_ret (v := .pointer (some ⟨q3, 0, none⟩)) (by kernel_rfl) rfl ⟨q3, rfl, h49.own _ (List.mem_of_getElem? (i := 1) rfl), h49.get 1 rfl, h49.old⟩
end Go.Proofs.Ythljhhhjdajfhaa
