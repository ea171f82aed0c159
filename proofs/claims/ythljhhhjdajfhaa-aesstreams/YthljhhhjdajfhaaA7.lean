/-
  Texts.
-/
import Derived.Test.YthljhhhjdajfhaaA6
namespace Go.Proofs.Ythljhhhjdajfhaa
open Go.RowKit

theorem xk_put (st : Nat → UInt8) (l : List UInt8) (n m : Nat) (v : UInt8) (hn : n < l.length) (hv : st n = v) :
    (bc (xk st l n ++ List.replicate m 0)).setIfInBounds n (.int .u8 (((xk st l n).getD n 0 ^^^ v).toNat : Int)) = bc (xk st l (n + 1) ++ List.replicate m 0) := by
  rw [bc_put, List.set_append_left _ _ (by rw [xk_len]; exact hn), xk, hv]
theorem stS_at (key nonce : ByteArray) (k i : Nat) (h : i < 16) : stS key nonce (16 * k + i) = (blkP (kwS key) (cq (colS (nonce ++ nz)) k)).getD i 0 := by
  unfold stS
  rw [show (16 * k + i) / 16 = k by omega, show (16 * k + i) % 16 = i by omega]
theorem xb_len (st : Nat → UInt8) (l : List UInt8) (n m : Nat) : (xk st l n ++ List.replicate m 0).length = l.length + m := by rw [List.length_append, xk_len, List.length_replicate]
theorem fin_x (st : Nat → UInt8) (text : ByteArray) (m : Nat) : (xk st (bl text) (min (16 * ((text.size + 15) / 16)) text.size) ++ List.replicate m 0).take text.size = xk st (bl text) text.size := by
  rw [show min (16 * ((text.size + 15) / 16)) text.size = text.size by omega, List.take_append_of_le_length (by rw [xk_len, bl_len]; omega), List.take_of_length_le (by rw [xk_len, bl_len]; omega)]

set_option linter.unusedVariables false in
set_option maxRecDepth 100000 in
set_option maxHeartbeats 2000000 in
theorem Ctr_yes (key nonce text : ByteArray) (hk : key.size = 32) (hn : nonce.size = 12) (ht : text.size ≤ 1048576) (w : World) :
    Calls Try.prog 11 #[.string key, .string nonce, .string text] w fun e w' => e = .returned (.tuple #[.string (ctrS key nonce text), iN .i64 0]) ∧ Below w.heap.size w w' := by
  have H0 := HA.start w
  go_enter Try.func11, Try.ntmps11
  refine wp_seq ?_
  -- region 0
  refine wl_region ?_
  refine wl_val (.string { data := #[] }) (by kernel_rfl) (by kernel_rfl) ?_
  refine wl_val (iN .i64 0) (by kernel_rfl) (by kernel_rfl) ?_
  refine wl_nil ?_
  refine then_at (F := ⟨(.string key :: .string nonce :: .string text :: un :: un :: un :: .string { data := #[] } :: iN .i64 0 :: List.replicate 58 un).toArray, []⟩) (by kernel_rfl) ?_
  refine wp_seq ?_
  refine wp_seq ?_
  -- region 1
  refine wl_region ?_
  refine wl_val (.string key) (by kernel_rfl) (by kernel_rfl) ?_
  refine wl_val (iN .i64 key.size) (by kernel_rfl) (run_len (s := key) (by kernel_rfl)) ?_
  refine wl_val (.bool false) (by kernel_rfl) (run_nei (k := .i64) (a := key.size) (b := 32) (by kernel_rfl) (by kernel_rfl) false (decide_eq_false (fun h => h hk))) ?_
  refine wl_nil ?_
  refine then_at (F := ⟨(.string key :: .string nonce :: .string text :: un :: un :: un :: .string { data := #[] } :: iN .i64 0 :: un :: un :: un :: un :: un :: un :: .string key :: iN .i64 key.size :: .bool false :: List.replicate 49 un).toArray, []⟩) (by kernel_rfl) ?_
  refine wp_cond_false (by kernel_rfl) ?_
  refine wp_skip ?_
  refine then_at (F := ⟨(.string key :: .string nonce :: .string text :: un :: un :: un :: .string { data := #[] } :: iN .i64 0 :: un :: un :: un :: un :: un :: un :: .string key :: iN .i64 key.size :: .bool false :: List.replicate 49 un).toArray, []⟩) (by kernel_rfl) ?_
  refine wp_seq ?_
  refine wp_seq ?_
  -- region 3
  refine wl_region ?_
  refine wl_val (.string nonce) (by kernel_rfl) (by kernel_rfl) ?_
  refine wl_val (iN .i64 nonce.size) (by kernel_rfl) (run_len (s := nonce) (by kernel_rfl)) ?_
  refine wl_val (.bool false) (by kernel_rfl) (run_nei (k := .i64) (a := nonce.size) (b := 12) (by kernel_rfl) (by kernel_rfl) false (decide_eq_false (fun h => h hn))) ?_
  refine wl_nil ?_
  refine then_at (F := ⟨(.string key :: .string nonce :: .string text :: un :: un :: un :: .string { data := #[] } :: iN .i64 0 :: un :: un :: un :: un :: un :: un :: .string key :: iN .i64 key.size :: .bool false :: .string nonce :: iN .i64 nonce.size :: .bool false :: List.replicate 46 un).toArray, []⟩) (by kernel_rfl) ?_
  refine wp_cond_false (by kernel_rfl) ?_
  refine wp_skip ?_
  refine then_at (F := ⟨(.string key :: .string nonce :: .string text :: un :: un :: un :: .string { data := #[] } :: iN .i64 0 :: un :: un :: un :: un :: un :: un :: .string key :: iN .i64 key.size :: .bool false :: .string nonce :: iN .i64 nonce.size :: .bool false :: List.replicate 46 un).toArray, []⟩) (by kernel_rfl) ?_
  refine wp_seq ?_
  refine wp_seq ?_
  -- region 5
  refine wl_region ?_
  refine wl_val (.string text) (by kernel_rfl) (by kernel_rfl) ?_
  refine wl_val (iN .i64 text.size) (by kernel_rfl) (run_len (s := text) (by kernel_rfl)) ?_
  refine wl_val (.bool false) (by kernel_rfl) (run_gtr (k := .i64) (a := text.size) (b := 1048576) (by kernel_rfl) (by kernel_rfl) false (decide_eq_false (by omega))) ?_
  refine wl_nil ?_
  refine then_at (F := ⟨(.string key :: .string nonce :: .string text :: un :: un :: un :: .string { data := #[] } :: iN .i64 0 :: un :: un :: un :: un :: un :: un :: .string key :: iN .i64 key.size :: .bool false :: .string nonce :: iN .i64 nonce.size :: .bool false :: .string text :: iN .i64 text.size :: .bool false :: List.replicate 43 un).toArray, []⟩) (by kernel_rfl) ?_
  refine wp_cond_false (by kernel_rfl) ?_
  refine wp_skip ?_
  refine then_at (F := ⟨(.string key :: .string nonce :: .string text :: un :: un :: un :: .string { data := #[] } :: iN .i64 0 :: un :: un :: un :: un :: un :: un :: .string key :: iN .i64 key.size :: .bool false :: .string nonce :: iN .i64 nonce.size :: .bool false :: .string text :: iN .i64 text.size :: .bool false :: List.replicate 43 un).toArray, []⟩) (by kernel_rfl) ?_
  refine wp_seq ?_
  -- region 7
  refine wl_region ?_
  refine wl_val (.string key) (by kernel_rfl) (by kernel_rfl) ?_
  refine wl_callnew H0 (by kernel_rfl) enter17 #[.string key] (by kernel_rfl) (newCipher_any key hk w) ?_
  intro q1 w2 h3
  refine wl_val (.pointer (some ⟨q1, 0, none⟩)) (by kernel_rfl) (by kernel_rfl) ?_
  refine wl_nil ?_
  refine then_at (F := ⟨(.string key :: .string nonce :: .string text :: un :: un :: un :: .string { data := #[] } :: iN .i64 0 :: pt q1 :: un :: un :: un :: un :: un :: .string key :: iN .i64 key.size :: .bool false :: .string nonce :: iN .i64 nonce.size :: .bool false :: .string text :: iN .i64 text.size :: .bool false :: .string key :: pt q1 :: List.replicate 41 un).toArray, []⟩) (by kernel_rfl) ?_
  refine wp_seq ?_
  -- region 8
  refine wl_region ?_
  refine wl_val (.string nonce) (by kernel_rfl) (by kernel_rfl) ?_
  refine wl_val (.string (nonce ++ nz)) (by kernel_rfl) (run_cat (s := nonce) (t := nz) (by kernel_rfl) (by kernel_rfl) (by rw [hn]; decide)) ?_
  refine wl_call (v := .agg (qc (colS ((nonce ++ nz))))) h3 (by kernel_rfl) enter19 #[.string (nonce ++ nz)] (by kernel_rfl) (columnsOf_any ((nonce ++ nz)) (by rw [ByteArray.size_append, hn]; decide) w2) ?_
  intro w4 h5
  refine wl_make h5 40 (by kernel_rfl) run_alloc40 ?_
  intro q6 w7 h8
  refine wl_fill (c' := qc (colS ((nonce ++ nz)))) h8 0 rfl (by kernel_rfl) (by kernel_rfl) (by kernel_rfl) rfl (info40 (colS ((nonce ++ nz)))) (one_qc (colS ((nonce ++ nz)))) ?_
  intro w9 (h10 : HA w [(q6, 40, qc (colS ((nonce ++ nz)))), (q1, 59, cc (kwS key))] w9)
  refine wl_nil ?_
  refine then_at (F := ⟨(.string key :: .string nonce :: .string text :: un :: un :: un :: .string { data := #[] } :: iN .i64 0 :: pt q1 :: pt q6 :: un :: un :: un :: un :: .string key :: iN .i64 key.size :: .bool false :: .string nonce :: iN .i64 nonce.size :: .bool false :: .string text :: iN .i64 text.size :: .bool false :: .string key :: pt q1 :: .string nonce :: .string (nonce ++ nz) :: .agg (qc (colS ((nonce ++ nz)))) :: List.replicate 38 un).toArray, []⟩) (by kernel_rfl) ?_
  refine wp_seq ?_
  -- region 9
  refine wl_region ?_
  refine wl_val (.string text) (by kernel_rfl) (by kernel_rfl) ?_
  refine wl_bytes (s := text) h10 (by kernel_rfl) (by kernel_rfl) ?_
  intro q11 cp12 m13 w14 h15
  refine wl_val (.slice (some ⟨q11, 0, none⟩) text.size cp12) (by kernel_rfl) (by kernel_rfl) ?_
  refine wl_nil ?_
  refine then_at (F := ⟨(.string key :: .string nonce :: .string text :: un :: un :: un :: .string { data := #[] } :: iN .i64 0 :: pt q1 :: pt q6 :: .slice (some ⟨q11, 0, none⟩) text.size cp12 :: un :: un :: un :: .string key :: iN .i64 key.size :: .bool false :: .string nonce :: iN .i64 nonce.size :: .bool false :: .string text :: iN .i64 text.size :: .bool false :: .string key :: pt q1 :: .string nonce :: .string (nonce ++ nz) :: .agg (qc (colS ((nonce ++ nz)))) :: .string text :: .slice (some ⟨q11, 0, none⟩) text.size cp12 :: List.replicate 36 un).toArray, []⟩) (by kernel_rfl) ?_
  refine wp_seq ?_
  refine wp_seq ?_
  -- region 10
  refine wl_region ?_
  refine wl_val (iN .i64 0) (by kernel_rfl) (by kernel_rfl) ?_
  refine wl_nil ?_
  refine then_at (F := ⟨(.string key :: .string nonce :: .string text :: un :: un :: un :: .string { data := #[] } :: iN .i64 0 :: pt q1 :: pt q6 :: .slice (some ⟨q11, 0, none⟩) text.size cp12 :: iN .i64 0 :: un :: un :: .string key :: iN .i64 key.size :: .bool false :: .string nonce :: iN .i64 nonce.size :: .bool false :: .string text :: iN .i64 text.size :: .bool false :: .string key :: pt q1 :: .string nonce :: .string (nonce ++ nz) :: .agg (qc (colS ((nonce ++ nz)))) :: .string text :: .slice (some ⟨q11, 0, none⟩) text.size cp12 :: List.replicate 36 un).toArray, []⟩) (by kernel_rfl) ?_
  refine wp_block ?_
  refine wp_count (fun k A w' => ∃ u16 : Nat → Value, A = ⟨(.string key :: .string nonce :: .string text :: un :: un :: un :: .string { data := #[] } :: iN .i64 0 :: pt q1 :: pt q6 :: .slice (some ⟨q11, 0, none⟩) text.size cp12 :: iN .i64 (16 * k) :: u16 12 :: u16 13 :: .string key :: iN .i64 key.size :: .bool false :: .string nonce :: iN .i64 nonce.size :: .bool false :: .string text :: iN .i64 text.size :: .bool false :: .string key :: pt q1 :: .string nonce :: .string (nonce ++ nz) :: .agg (qc (colS ((nonce ++ nz)))) :: .string text :: .slice (some ⟨q11, 0, none⟩) text.size cp12 :: u16 30 :: u16 31 :: u16 32 :: u16 33 :: u16 34 :: u16 35 :: u16 36 :: u16 37 :: u16 38 :: u16 39 :: u16 40 :: u16 41 :: u16 42 :: u16 43 :: u16 44 :: u16 45 :: u16 46 :: u16 47 :: u16 48 :: u16 49 :: u16 50 :: u16 51 :: u16 52 :: u16 53 :: u16 54 :: u16 55 :: u16 56 :: u16 57 :: u16 58 :: u16 59 :: u16 60 :: u16 61 :: u16 62 :: u16 63 :: List.replicate 2 un).toArray, []⟩ ∧ HA w [(q11, 5, bc (xk (stS key nonce) (bl text) (min (16 * k) text.size) ++ List.replicate m13 0)), (q6, 40, qc (cq (colS (nonce ++ nz)) k)), (q1, 59, cc (kwS key))] w') ((text.size + 15) / 16) ?_ ?_ ?_
  · exact ⟨fun ii => (([(12, undef), (13, undef), (30, undef), (31, undef), (32, undef), (33, undef), (34, undef), (35, undef), (36, undef), (37, undef), (38, undef), (39, undef), (40, undef), (41, undef), (42, undef), (43, undef), (44, undef), (45, undef), (46, undef), (47, undef), (48, undef), (49, undef), (50, undef), (51, undef), (52, undef), (53, undef), (54, undef), (55, undef), (56, undef), (57, undef), (58, undef), (59, undef), (60, undef), (61, undef), (62, undef), (63, undef)] : List (Nat × Value)).find? (·.1 == ii)).elim undef (·.2), by kernel_rfl, (by rw [Nat.mul_zero, Nat.zero_min]; exact h15)⟩
  · rintro k hk1 _ w17 ⟨u16, rfl, h18⟩
    refine wp_seq ?_
    refine wp_seq ?_
    -- region 11
    refine wl_region ?_
    refine wl_val (iN .i64 (16 * k)) (by kernel_rfl) (by kernel_rfl) ?_
    refine wl_val (.slice (some ⟨q11, 0, none⟩) text.size cp12) (by kernel_rfl) (by kernel_rfl) ?_
    refine wl_val (iN .i64 text.size) (by kernel_rfl) (run_len28 (q := some ⟨q11, 0, none⟩) (m := text.size) (c := cp12) (by kernel_rfl)) ?_
    refine wl_val (.bool true) (by kernel_rfl) (run_lss (k := .i64) (a := 16 * k) (b := text.size) (by kernel_rfl) (by kernel_rfl) true (decide_eq_true (by omega))) ?_
    refine wl_nil ?_
    refine then_at (F := ⟨(.string key :: .string nonce :: .string text :: un :: un :: un :: .string { data := #[] } :: iN .i64 0 :: pt q1 :: pt q6 :: .slice (some ⟨q11, 0, none⟩) text.size cp12 :: iN .i64 (16 * k) :: u16 12 :: u16 13 :: .string key :: iN .i64 key.size :: .bool false :: .string nonce :: iN .i64 nonce.size :: .bool false :: .string text :: iN .i64 text.size :: .bool false :: .string key :: pt q1 :: .string nonce :: .string (nonce ++ nz) :: .agg (qc (colS ((nonce ++ nz)))) :: .string text :: .slice (some ⟨q11, 0, none⟩) text.size cp12 :: iN .i64 (16 * k) :: .slice (some ⟨q11, 0, none⟩) text.size cp12 :: iN .i64 text.size :: .bool true :: u16 34 :: u16 35 :: u16 36 :: u16 37 :: u16 38 :: u16 39 :: u16 40 :: u16 41 :: u16 42 :: u16 43 :: u16 44 :: u16 45 :: u16 46 :: u16 47 :: u16 48 :: u16 49 :: u16 50 :: u16 51 :: u16 52 :: u16 53 :: u16 54 :: u16 55 :: u16 56 :: u16 57 :: u16 58 :: u16 59 :: u16 60 :: u16 61 :: u16 62 :: u16 63 :: List.replicate 2 un).toArray, []⟩) (by kernel_rfl) ?_
    refine wp_cond_true (by kernel_rfl) ?_
    refine wp_skip ?_
    refine then_at (F := ⟨(.string key :: .string nonce :: .string text :: un :: un :: un :: .string { data := #[] } :: iN .i64 0 :: pt q1 :: pt q6 :: .slice (some ⟨q11, 0, none⟩) text.size cp12 :: iN .i64 (16 * k) :: u16 12 :: u16 13 :: .string key :: iN .i64 key.size :: .bool false :: .string nonce :: iN .i64 nonce.size :: .bool false :: .string text :: iN .i64 text.size :: .bool false :: .string key :: pt q1 :: .string nonce :: .string (nonce ++ nz) :: .agg (qc (colS ((nonce ++ nz)))) :: .string text :: .slice (some ⟨q11, 0, none⟩) text.size cp12 :: iN .i64 (16 * k) :: .slice (some ⟨q11, 0, none⟩) text.size cp12 :: iN .i64 text.size :: .bool true :: u16 34 :: u16 35 :: u16 36 :: u16 37 :: u16 38 :: u16 39 :: u16 40 :: u16 41 :: u16 42 :: u16 43 :: u16 44 :: u16 45 :: u16 46 :: u16 47 :: u16 48 :: u16 49 :: u16 50 :: u16 51 :: u16 52 :: u16 53 :: u16 54 :: u16 55 :: u16 56 :: u16 57 :: u16 58 :: u16 59 :: u16 60 :: u16 61 :: u16 62 :: u16 63 :: List.replicate 2 un).toArray, []⟩) (by kernel_rfl) ?_
    refine wp_seq ?_
    refine wp_block ?_
    refine wp_seq ?_
    -- region 13
    refine wl_region ?_
    refine wl_val (.pointer (some ⟨q1, 0, none⟩)) (by kernel_rfl) (by kernel_rfl) ?_
    refine wl_load h18 1 rfl (by kernel_rfl) (by kernel_rfl) Try.underlying40 rfl (info40 (cq (colS (nonce ++ nz)) k)) ?_
    refine wl_call (v := .agg (qc (encQ (kwS key) (cq (colS (nonce ++ nz)) k)))) h18 (by kernel_rfl) enter18 #[.pointer (some ⟨q1, 0, none⟩), .agg (qc (cq (colS (nonce ++ nz)) k))] (by kernel_rfl) (encipher_any q1 (kwS key) (kwS_len key) (cq (colS (nonce ++ nz)) k) w17 (h18.get 2 rfl)) ?_
    intro w19 h20
    refine wl_call (v := .agg (bc (outQ (encQ (kwS key) (cq (colS (nonce ++ nz)) k)) 4))) h20 (by kernel_rfl) enter20 #[.agg (qc (encQ (kwS key) (cq (colS (nonce ++ nz)) k)))] (by kernel_rfl) (bytes_any (encQ (kwS key) (cq (colS (nonce ++ nz)) k)) w19) ?_
    intro w21 h22
    refine wl_make h22 37 (by kernel_rfl) run_alloc37 ?_
    intro q23 w24 h25
    refine wl_fill (c' := bc (outQ (encQ (kwS key) (cq (colS (nonce ++ nz)) k)) 4)) h25 0 rfl (by kernel_rfl) (by kernel_rfl) (by kernel_rfl) (by rw [bc_size, bc_size, (outQ_len (encQ (kwS key) (cq (colS (nonce ++ nz)) k)) 4), (List.length_replicate)]) (info37 (outQ (encQ (kwS key) (cq (colS (nonce ++ nz)) k)) 4) (outQ_len (encQ (kwS key) (cq (colS (nonce ++ nz)) k)) 4)) (one_bc (outQ (encQ (kwS key) (cq (colS (nonce ++ nz)) k)) 4)) ?_
    intro w26 (h27 : HA w [(q23, 37, bc (outQ (encQ (kwS key) (cq (colS (nonce ++ nz)) k)) 4)), (q11, 5, bc (xk (stS key nonce) (bl text) (min (16 * k) text.size) ++ List.replicate m13 0)), (q6, 40, qc (cq (colS (nonce ++ nz)) k)), (q1, 59, cc (kwS key))] w26)
    refine wl_nil ?_
    refine then_at (F := ⟨(.string key :: .string nonce :: .string text :: un :: un :: un :: .string { data := #[] } :: iN .i64 0 :: pt q1 :: pt q6 :: .slice (some ⟨q11, 0, none⟩) text.size cp12 :: iN .i64 (16 * k) :: pt q23 :: u16 13 :: .string key :: iN .i64 key.size :: .bool false :: .string nonce :: iN .i64 nonce.size :: .bool false :: .string text :: iN .i64 text.size :: .bool false :: .string key :: pt q1 :: .string nonce :: .string (nonce ++ nz) :: .agg (qc (colS ((nonce ++ nz)))) :: .string text :: .slice (some ⟨q11, 0, none⟩) text.size cp12 :: iN .i64 (16 * k) :: .slice (some ⟨q11, 0, none⟩) text.size cp12 :: iN .i64 text.size :: .bool true :: u16 34 :: u16 35 :: pt q1 :: .agg (qc (cq (colS (nonce ++ nz)) k)) :: .agg (qc (encQ (kwS key) (cq (colS (nonce ++ nz)) k))) :: .agg (bc (outQ (encQ (kwS key) (cq (colS (nonce ++ nz)) k)) 4)) :: u16 40 :: u16 41 :: u16 42 :: u16 43 :: u16 44 :: u16 45 :: u16 46 :: u16 47 :: u16 48 :: u16 49 :: u16 50 :: u16 51 :: u16 52 :: u16 53 :: u16 54 :: u16 55 :: u16 56 :: u16 57 :: u16 58 :: u16 59 :: u16 60 :: u16 61 :: u16 62 :: u16 63 :: List.replicate 2 un).toArray, []⟩) (by kernel_rfl) ?_
    refine wp_seq ?_
    refine wp_seq ?_
    -- region 14
    refine wl_region ?_
    refine wl_val (.slice (some ⟨q11, 0, none⟩) text.size cp12) (by kernel_rfl) (by kernel_rfl) ?_
    refine wl_val (iN .i64 text.size) (by kernel_rfl) (run_len28 (q := some ⟨q11, 0, none⟩) (m := text.size) (c := cp12) (by kernel_rfl)) ?_
    refine wl_val (iN .i64 (16 * k)) (by kernel_rfl) (by kernel_rfl) ?_
    refine wl_val (iN .i64 (text.size - (16 * k))) (by kernel_rfl) (run_sub (k := .i64) (a := text.size) (b := 16 * k) (by kernel_rfl) (by kernel_rfl) (by omega) (by simp only [top]; omega)) ?_
    refine wl_val (iN .i64 (min 16 (text.size - (16 * k)))) (by kernel_rfl) (run_min (i := 16) (j := text.size - (16 * k)) (by kernel_rfl) (by kernel_rfl)) ?_
    refine wl_val (iN .i64 0) (by kernel_rfl) (by kernel_rfl) ?_
    refine wl_nil ?_
    refine then_at (F := ⟨(.string key :: .string nonce :: .string text :: un :: un :: un :: .string { data := #[] } :: iN .i64 0 :: pt q1 :: pt q6 :: .slice (some ⟨q11, 0, none⟩) text.size cp12 :: iN .i64 (16 * k) :: pt q23 :: u16 13 :: .string key :: iN .i64 key.size :: .bool false :: .string nonce :: iN .i64 nonce.size :: .bool false :: .string text :: iN .i64 text.size :: .bool false :: .string key :: pt q1 :: .string nonce :: .string (nonce ++ nz) :: .agg (qc (colS ((nonce ++ nz)))) :: .string text :: .slice (some ⟨q11, 0, none⟩) text.size cp12 :: iN .i64 (16 * k) :: .slice (some ⟨q11, 0, none⟩) text.size cp12 :: iN .i64 text.size :: .bool true :: u16 34 :: u16 35 :: pt q1 :: .agg (qc (cq (colS (nonce ++ nz)) k)) :: .agg (qc (encQ (kwS key) (cq (colS (nonce ++ nz)) k))) :: .agg (bc (outQ (encQ (kwS key) (cq (colS (nonce ++ nz)) k)) 4)) :: .slice (some ⟨q11, 0, none⟩) text.size cp12 :: iN .i64 text.size :: iN .i64 (16 * k) :: iN .i64 (text.size - (16 * k)) :: iN .i64 (min 16 (text.size - (16 * k))) :: iN .i64 0 :: u16 46 :: u16 47 :: u16 48 :: u16 49 :: u16 50 :: u16 51 :: u16 52 :: u16 53 :: u16 54 :: u16 55 :: u16 56 :: u16 57 :: u16 58 :: u16 59 :: u16 60 :: u16 61 :: u16 62 :: u16 63 :: List.replicate 2 un).toArray, []⟩) (by kernel_rfl) ?_
    refine wp_block ?_
    refine wp_count (fun i A w' => ∃ u28 : Nat → Value, A = ⟨(.string key :: .string nonce :: .string text :: un :: un :: un :: .string { data := #[] } :: iN .i64 0 :: pt q1 :: pt q6 :: .slice (some ⟨q11, 0, none⟩) text.size cp12 :: iN .i64 (16 * k) :: pt q23 :: u28 13 :: .string key :: iN .i64 key.size :: .bool false :: .string nonce :: iN .i64 nonce.size :: .bool false :: .string text :: iN .i64 text.size :: .bool false :: .string key :: pt q1 :: .string nonce :: .string (nonce ++ nz) :: .agg (qc (colS ((nonce ++ nz)))) :: .string text :: .slice (some ⟨q11, 0, none⟩) text.size cp12 :: iN .i64 (16 * k) :: .slice (some ⟨q11, 0, none⟩) text.size cp12 :: iN .i64 text.size :: .bool true :: u16 34 :: u16 35 :: pt q1 :: .agg (qc (cq (colS (nonce ++ nz)) k)) :: .agg (qc (encQ (kwS key) (cq (colS (nonce ++ nz)) k))) :: .agg (bc (outQ (encQ (kwS key) (cq (colS (nonce ++ nz)) k)) 4)) :: .slice (some ⟨q11, 0, none⟩) text.size cp12 :: iN .i64 text.size :: iN .i64 (16 * k) :: iN .i64 (text.size - (16 * k)) :: iN .i64 (min 16 (text.size - (16 * k))) :: iN .i64 i :: u28 46 :: u28 47 :: u28 48 :: u28 49 :: u28 50 :: u28 51 :: u28 52 :: u28 53 :: u28 54 :: u28 55 :: u28 56 :: u28 57 :: u28 58 :: u28 59 :: u16 60 :: u16 61 :: u16 62 :: u16 63 :: List.replicate 2 un).toArray, []⟩ ∧ HA w [(q23, 37, bc (outQ (encQ (kwS key) (cq (colS (nonce ++ nz)) k)) 4)), (q11, 5, bc (xk (stS key nonce) (bl text) (16 * k + i) ++ List.replicate m13 0)), (q6, 40, qc (cq (colS (nonce ++ nz)) k)), (q1, 59, cc (kwS key))] w') (min 16 (text.size - 16 * k)) ?_ ?_ ?_
    · exact ⟨fun ii => (([(13, u16 13), (46, u16 46), (47, u16 47), (48, u16 48), (49, u16 49), (50, u16 50), (51, u16 51), (52, u16 52), (53, u16 53), (54, u16 54), (55, u16 55), (56, u16 56), (57, u16 57), (58, u16 58), (59, u16 59)] : List (Nat × Value)).find? (·.1 == ii)).elim undef (·.2), by kernel_rfl, (by rw [show 16 * k + 0 = min (16 * k) text.size by omega]; exact h27)⟩
    · rintro i hi _ w29 ⟨u28, rfl, h30⟩
      refine wp_seq ?_
      -- region 15
      refine wl_region ?_
      refine wl_val (.bool true) (by kernel_rfl) (run_lss (k := .i64) (a := i) (b := min 16 (text.size - (16 * k))) (by kernel_rfl) (by kernel_rfl) true (decide_eq_true (by omega))) ?_
      refine wl_nil ?_
      refine then_at (F := ⟨(.string key :: .string nonce :: .string text :: un :: un :: un :: .string { data := #[] } :: iN .i64 0 :: pt q1 :: pt q6 :: .slice (some ⟨q11, 0, none⟩) text.size cp12 :: iN .i64 (16 * k) :: pt q23 :: u28 13 :: .string key :: iN .i64 key.size :: .bool false :: .string nonce :: iN .i64 nonce.size :: .bool false :: .string text :: iN .i64 text.size :: .bool false :: .string key :: pt q1 :: .string nonce :: .string (nonce ++ nz) :: .agg (qc (colS ((nonce ++ nz)))) :: .string text :: .slice (some ⟨q11, 0, none⟩) text.size cp12 :: iN .i64 (16 * k) :: .slice (some ⟨q11, 0, none⟩) text.size cp12 :: iN .i64 text.size :: .bool true :: u16 34 :: u16 35 :: pt q1 :: .agg (qc (cq (colS (nonce ++ nz)) k)) :: .agg (qc (encQ (kwS key) (cq (colS (nonce ++ nz)) k))) :: .agg (bc (outQ (encQ (kwS key) (cq (colS (nonce ++ nz)) k)) 4)) :: .slice (some ⟨q11, 0, none⟩) text.size cp12 :: iN .i64 text.size :: iN .i64 (16 * k) :: iN .i64 (text.size - (16 * k)) :: iN .i64 (min 16 (text.size - (16 * k))) :: iN .i64 i :: .bool true :: u28 47 :: u28 48 :: u28 49 :: u28 50 :: u28 51 :: u28 52 :: u28 53 :: u28 54 :: u28 55 :: u28 56 :: u28 57 :: u28 58 :: u28 59 :: u16 60 :: u16 61 :: u16 62 :: u16 63 :: List.replicate 2 un).toArray, []⟩) (by kernel_rfl) ?_
      refine wp_seq ?_
      refine wp_cond_true (by kernel_rfl) ?_
      refine wp_skip ?_
      refine then_at (F := ⟨(.string key :: .string nonce :: .string text :: un :: un :: un :: .string { data := #[] } :: iN .i64 0 :: pt q1 :: pt q6 :: .slice (some ⟨q11, 0, none⟩) text.size cp12 :: iN .i64 (16 * k) :: pt q23 :: u28 13 :: .string key :: iN .i64 key.size :: .bool false :: .string nonce :: iN .i64 nonce.size :: .bool false :: .string text :: iN .i64 text.size :: .bool false :: .string key :: pt q1 :: .string nonce :: .string (nonce ++ nz) :: .agg (qc (colS ((nonce ++ nz)))) :: .string text :: .slice (some ⟨q11, 0, none⟩) text.size cp12 :: iN .i64 (16 * k) :: .slice (some ⟨q11, 0, none⟩) text.size cp12 :: iN .i64 text.size :: .bool true :: u16 34 :: u16 35 :: pt q1 :: .agg (qc (cq (colS (nonce ++ nz)) k)) :: .agg (qc (encQ (kwS key) (cq (colS (nonce ++ nz)) k))) :: .agg (bc (outQ (encQ (kwS key) (cq (colS (nonce ++ nz)) k)) 4)) :: .slice (some ⟨q11, 0, none⟩) text.size cp12 :: iN .i64 text.size :: iN .i64 (16 * k) :: iN .i64 (text.size - (16 * k)) :: iN .i64 (min 16 (text.size - (16 * k))) :: iN .i64 i :: .bool true :: u28 47 :: u28 48 :: u28 49 :: u28 50 :: u28 51 :: u28 52 :: u28 53 :: u28 54 :: u28 55 :: u28 56 :: u28 57 :: u28 58 :: u28 59 :: u16 60 :: u16 61 :: u16 62 :: u16 63 :: List.replicate 2 un).toArray, []⟩) (by kernel_rfl) ?_
      refine wp_seq ?_
      refine wp_block ?_
      refine wp_seq ?_
      -- region 16
      refine wl_region ?_
      refine wl_val (iN .i64 i) (by kernel_rfl) (by kernel_rfl) ?_
      refine wl_val (iN .i64 i) (by kernel_rfl) (by kernel_rfl) ?_
      refine wl_nil ?_
      refine then_at (F := ⟨(.string key :: .string nonce :: .string text :: un :: un :: un :: .string { data := #[] } :: iN .i64 0 :: pt q1 :: pt q6 :: .slice (some ⟨q11, 0, none⟩) text.size cp12 :: iN .i64 (16 * k) :: pt q23 :: iN .i64 i :: .string key :: iN .i64 key.size :: .bool false :: .string nonce :: iN .i64 nonce.size :: .bool false :: .string text :: iN .i64 text.size :: .bool false :: .string key :: pt q1 :: .string nonce :: .string (nonce ++ nz) :: .agg (qc (colS ((nonce ++ nz)))) :: .string text :: .slice (some ⟨q11, 0, none⟩) text.size cp12 :: iN .i64 (16 * k) :: .slice (some ⟨q11, 0, none⟩) text.size cp12 :: iN .i64 text.size :: .bool true :: u16 34 :: u16 35 :: pt q1 :: .agg (qc (cq (colS (nonce ++ nz)) k)) :: .agg (qc (encQ (kwS key) (cq (colS (nonce ++ nz)) k))) :: .agg (bc (outQ (encQ (kwS key) (cq (colS (nonce ++ nz)) k)) 4)) :: .slice (some ⟨q11, 0, none⟩) text.size cp12 :: iN .i64 text.size :: iN .i64 (16 * k) :: iN .i64 (text.size - (16 * k)) :: iN .i64 (min 16 (text.size - (16 * k))) :: iN .i64 i :: .bool true :: iN .i64 i :: u28 48 :: u28 49 :: u28 50 :: u28 51 :: u28 52 :: u28 53 :: u28 54 :: u28 55 :: u28 56 :: u28 57 :: u28 58 :: u28 59 :: u16 60 :: u16 61 :: u16 62 :: u16 63 :: List.replicate 2 un).toArray, []⟩) (by kernel_rfl) ?_
      -- region 17
      refine wp_region_ghost (fun _ : Nat → Nat => (⟨(.string key :: .string nonce :: .string text :: un :: un :: un :: .string { data := #[] } :: iN .i64 0 :: pt q1 :: pt q6 :: .slice (some ⟨q11, 0, none⟩) text.size cp12 :: iN .i64 (16 * k) :: pt q23 :: iN .i64 i :: .string key :: iN .i64 key.size :: .bool false :: .string nonce :: iN .i64 nonce.size :: .bool false :: .string text :: iN .i64 text.size :: .bool false :: .string key :: pt q1 :: .string nonce :: .string (nonce ++ nz) :: .agg (qc (colS ((nonce ++ nz)))) :: .string text :: .slice (some ⟨q11, 0, none⟩) text.size cp12 :: iN .i64 (16 * k) :: .slice (some ⟨q11, 0, none⟩) text.size cp12 :: iN .i64 text.size :: .bool true :: u16 34 :: u16 35 :: pt q1 :: .agg (qc (cq (colS (nonce ++ nz)) k)) :: .agg (qc (encQ (kwS key) (cq (colS (nonce ++ nz)) k))) :: .agg (bc (outQ (encQ (kwS key) (cq (colS (nonce ++ nz)) k)) 4)) :: .slice (some ⟨q11, 0, none⟩) text.size cp12 :: iN .i64 text.size :: iN .i64 (16 * k) :: iN .i64 (text.size - (16 * k)) :: iN .i64 (min 16 (text.size - (16 * k))) :: iN .i64 i :: .bool true :: iN .i64 i :: .slice (some ⟨q11, 0, none⟩) text.size cp12 :: iN .i64 (16 * k) :: iN .i64 i :: iN .i64 ((16 * k) + i) :: .pointer (some ⟨q11, (16 * k) + i, none⟩) :: by8 ((xk (stS key nonce) (bl text) (16 * k + i)).getD ((16 * k) + i) 0) :: iN .i64 i :: .pointer (some ⟨q23, i, none⟩) :: by8 ((outQ (encQ (kwS key) (cq (colS (nonce ++ nz)) k)) 4).getD i 0) :: by8 (((xk (stS key nonce) (bl text) (16 * k + i)).getD ((16 * k) + i) 0) ^^^ ((outQ (encQ (kwS key) (cq (colS (nonce ++ nz)) k)) 4).getD i 0)) :: .pointer (some ⟨q11, (16 * k) + i, none⟩) :: u28 59 :: u16 60 :: u16 61 :: u16 62 :: u16 63 :: List.replicate 2 un).toArray, []⟩ : Act)) (GQ w [(q23, 37, bc (outQ (encQ (kwS key) (cq (colS (nonce ++ nz)) k)) 4)), (q11, 5, bc (xk (stS key nonce) (bl text) (16 * k + i) ++ List.replicate m13 0)), (q6, 40, qc (cq (colS (nonce ++ nz)) k)), (q1, 59, cc (kwS key))] (fun i => ([[], [], [], [1, 2], [0, 3], [4], [], [6], [7], [5, 8], [0, 3], [10, 9]] : List (List Nat)).getD i []) 11 1 q11 5 (bc (xk (stS key nonce) (bl text) (16 * k + i + 1) ++ List.replicate m13 0))) [.slice (some ⟨q11, 0, none⟩) text.size cp12, iN .i64 (16 * k), iN .i64 i, iN .i64 ((16 * k) + i), .pointer (some ⟨q11, (16 * k) + i, none⟩), by8 ((xk (stS key nonce) (bl text) (16 * k + i)).getD ((16 * k) + i) 0), iN .i64 i, .pointer (some ⟨q23, i, none⟩), by8 ((outQ (encQ (kwS key) (cq (colS (nonce ++ nz)) k)) 4).getD i 0), by8 (((xk (stS key nonce) (bl text) (16 * k + i)).getD ((16 * k) + i) 0) ^^^ ((outQ (encQ (kwS key) (cq (colS (nonce ++ nz)) k)) 4).getD i 0)), .pointer (some ⟨q11, (16 * k) + i, none⟩), undef] (by kernel_rfl) (by kernel_rfl) (by kernel_rfl) (by kernel_rfl) (fun _ _ _ _ h => h) (fun d hd => GQ.start h30.drew (hd 11 (by decide)) (Cl.start (n := 12) hd (by decide))) ?_ ?_
      · refine AllGhost.cons (gq_plain (v := .slice (some ⟨q11, 0, none⟩) text.size cp12) (by decide) (by kernel_rfl) (fun _ => by kernel_rfl) (fun _ => by kernel_rfl) (fun _ _ => (by kernel_rfl))) ?_
        refine AllGhost.cons (gq_plain (v := iN .i64 (16 * k)) (by decide) (by kernel_rfl) (fun _ => by kernel_rfl) (fun _ => by kernel_rfl) (fun _ _ => (by kernel_rfl))) ?_
        refine AllGhost.cons (gq_plain (v := iN .i64 i) (by decide) (by kernel_rfl) (fun _ => by kernel_rfl) (fun _ => by kernel_rfl) (fun _ _ => (by kernel_rfl))) ?_
        refine AllGhost.cons (gq_plain (v := iN .i64 ((16 * k) + i)) (by decide) (by kernel_rfl) (fun _ => by kernel_rfl) (fun _ => by kernel_rfl) (fun _ _ => (run_add (k := .i64) (a := 16 * k) (b := i) (by kernel_rfl) (by kernel_rfl) (by simp only [top]; omega)))) ?_
        refine AllGhost.cons (gq_plain (v := .pointer (some ⟨q11, (16 * k) + i, none⟩)) (by decide) (by kernel_rfl) (fun _ => by kernel_rfl) (fun _ => by kernel_rfl) (fun _ _ => (run_addr_slice (q := q11) (n := text.size) (m := cp12) (a := (16 * k) + i) Try.underlying31 (fun w => Try.sizeOf5 w) (by kernel_rfl) (by kernel_rfl) (by omega)))) ?_
        refine AllGhost.cons (gq_read (v := by8 ((xk (stS key nonce) (bl text) (16 * k + i)).getD ((16 * k) + i) 0)) 1 rfl (.inr (fun d C h => (C 9 (C 11 h 9 (by decide)) 5 (by decide)))) (by decide) (by kernel_rfl) (fun _ => by kernel_rfl) (fun _ => by kernel_rfl) (fun _ _ hb => run_load1 (fun w => Try.isAgg5 w) (by kernel_rfl) ((hb.cell ((16 * k) + i)).trans (padb_get _ _ _ (by rw [xk_len, bl_len]; omega))))) ?_
        refine AllGhost.cons (gq_plain (v := iN .i64 i) (by decide) (by kernel_rfl) (fun _ => by kernel_rfl) (fun _ => by kernel_rfl) (fun _ _ => (by kernel_rfl))) ?_
        refine AllGhost.cons (gq_plain (v := .pointer (some ⟨q23, i, none⟩)) (by decide) (by kernel_rfl) (fun _ => by kernel_rfl) (fun _ => by kernel_rfl) (fun _ _ => (addr_eq (by omega) (run_addr_k (k := .i64) (q := q23) (o := 0) (a := i) (m := 1) Try.underlying37 (fun w => Try.sizeOf5 w) (by kernel_rfl) (by kernel_rfl) (by omega))))) ?_
        refine AllGhost.cons (gq_read (v := by8 ((outQ (encQ (kwS key) (cq (colS (nonce ++ nz)) k)) 4).getD i 0)) 0 rfl (.inl (by decide)) (by decide) (by kernel_rfl) (fun _ => by kernel_rfl) (fun _ => by kernel_rfl) (fun _ _ hb => run_load1 (fun w => Try.isAgg5 w) (by kernel_rfl) ((hb.cell i).trans (bc_get (outQ (encQ (kwS key) (cq (colS (nonce ++ nz)) k)) 4) i (by rw [(outQ_len (encQ (kwS key) (cq (colS (nonce ++ nz)) k)) 4)]; omega))))) ?_
        refine AllGhost.cons (gq_plain (v := by8 (((xk (stS key nonce) (bl text) (16 * k + i)).getD ((16 * k) + i) 0) ^^^ ((outQ (encQ (kwS key) (cq (colS (nonce ++ nz)) k)) 4).getD i 0))) (by decide) (by kernel_rfl) (fun _ => by kernel_rfl) (fun _ => by kernel_rfl) (fun _ _ => (run_xorb (a := (xk (stS key nonce) (bl text) (16 * k + i)).getD ((16 * k) + i) 0) (b := (outQ (encQ (kwS key) (cq (colS (nonce ++ nz)) k)) 4).getD i 0) (by kernel_rfl) (by kernel_rfl)))) ?_
        refine AllGhost.cons (gq_plain (v := .pointer (some ⟨q11, (16 * k) + i, none⟩)) (by decide) (by kernel_rfl) (fun _ => by kernel_rfl) (fun _ => by kernel_rfl) (fun _ _ => (run_addr_slice (q := q11) (n := text.size) (m := cp12) (a := (16 * k) + i) Try.underlying31 (fun w => Try.sizeOf5 w) (by kernel_rfl) (by kernel_rfl) (by omega)))) ?_
        refine AllGhost.cons (gq_put (k := .u8) (z := (((((xk (stS key nonce) (bl text) (16 * k + i)).getD ((16 * k) + i) 0) ^^^ ((outQ (encQ (kwS key) (cq (colS (nonce ++ nz)) k)) 4).getD i 0)).toNat : Nat) : Int)) (off := (16 * k) + i) rfl (by rw [bc_size, xb_len, bl_len]; omega) ((xk_put (stS key nonce) (bl text) (16 * k + i) m13 ((blkP (kwS key) (cq (colS (nonce ++ nz)) k)).getD i 0) (by rw [bl_len]; omega) (stS_at key nonce k i (by omega)))) (fun w => Try.sizeOf5 w) (by kernel_rfl) (fun _ => by kernel_rfl) (fun _ => by kernel_rfl) (fun _ => by kernel_rfl) (fun _ => by kernel_rfl)) ?_
        exact AllGhost.nil
      intro _ w31 g32
      have h33 : HA w [(q23, 37, bc (outQ (encQ (kwS key) (cq (colS (nonce ++ nz)) k)) 4)), (q11, 5, bc (xk (stS key nonce) (bl text) (16 * k + i + 1) ++ List.replicate m13 0)), (q6, 40, qc (cq (colS (nonce ++ nz)) k)), (q1, 59, cc (kwS key))] w31 := g32.held
      clear g32
      refine block_normal ?_
      refine then_at (F := ⟨(.string key :: .string nonce :: .string text :: un :: un :: un :: .string { data := #[] } :: iN .i64 0 :: pt q1 :: pt q6 :: .slice (some ⟨q11, 0, none⟩) text.size cp12 :: iN .i64 (16 * k) :: pt q23 :: iN .i64 i :: .string key :: iN .i64 key.size :: .bool false :: .string nonce :: iN .i64 nonce.size :: .bool false :: .string text :: iN .i64 text.size :: .bool false :: .string key :: pt q1 :: .string nonce :: .string (nonce ++ nz) :: .agg (qc (colS ((nonce ++ nz)))) :: .string text :: .slice (some ⟨q11, 0, none⟩) text.size cp12 :: iN .i64 (16 * k) :: .slice (some ⟨q11, 0, none⟩) text.size cp12 :: iN .i64 text.size :: .bool true :: u16 34 :: u16 35 :: pt q1 :: .agg (qc (cq (colS (nonce ++ nz)) k)) :: .agg (qc (encQ (kwS key) (cq (colS (nonce ++ nz)) k))) :: .agg (bc (outQ (encQ (kwS key) (cq (colS (nonce ++ nz)) k)) 4)) :: .slice (some ⟨q11, 0, none⟩) text.size cp12 :: iN .i64 text.size :: iN .i64 (16 * k) :: iN .i64 (text.size - (16 * k)) :: iN .i64 (min 16 (text.size - (16 * k))) :: iN .i64 i :: .bool true :: iN .i64 i :: .slice (some ⟨q11, 0, none⟩) text.size cp12 :: iN .i64 (16 * k) :: iN .i64 i :: iN .i64 ((16 * k) + i) :: .pointer (some ⟨q11, (16 * k) + i, none⟩) :: by8 ((xk (stS key nonce) (bl text) (16 * k + i)).getD ((16 * k) + i) 0) :: iN .i64 i :: .pointer (some ⟨q23, i, none⟩) :: by8 ((outQ (encQ (kwS key) (cq (colS (nonce ++ nz)) k)) 4).getD i 0) :: by8 (((xk (stS key nonce) (bl text) (16 * k + i)).getD ((16 * k) + i) 0) ^^^ ((outQ (encQ (kwS key) (cq (colS (nonce ++ nz)) k)) 4).getD i 0)) :: .pointer (some ⟨q11, (16 * k) + i, none⟩) :: u28 59 :: u16 60 :: u16 61 :: u16 62 :: u16 63 :: List.replicate 2 un).toArray, []⟩) (by kernel_rfl) ?_
      -- region 18
      refine wl_region ?_
      refine wl_val (iN .i64 (i + 1)) (by kernel_rfl) (run_add (k := .i64) (a := i) (b := 1) (by kernel_rfl) (by kernel_rfl) (by simp only [top]; omega)) ?_
      refine wl_val (iN .i64 (i + 1)) (by kernel_rfl) (by kernel_rfl) ?_
      refine wl_nil ?_
      exact then_I ⟨fun ii => (([(13, iN .i64 i), (46, .bool true), (47, iN .i64 i), (48, .slice (some ⟨q11, 0, none⟩) text.size cp12), (49, iN .i64 (16 * k)), (50, iN .i64 i), (51, iN .i64 ((16 * k) + i)), (52, .pointer (some ⟨q11, (16 * k) + i, none⟩)), (53, by8 ((xk (stS key nonce) (bl text) (16 * k + i)).getD ((16 * k) + i) 0)), (54, iN .i64 i), (55, .pointer (some ⟨q23, i, none⟩)), (56, by8 ((outQ (encQ (kwS key) (cq (colS (nonce ++ nz)) k)) 4).getD i 0)), (57, by8 (((xk (stS key nonce) (bl text) (16 * k + i)).getD ((16 * k) + i) 0) ^^^ ((outQ (encQ (kwS key) (cq (colS (nonce ++ nz)) k)) 4).getD i 0))), (58, .pointer (some ⟨q11, (16 * k) + i, none⟩)), (59, iN .i64 (i + 1))] : List (Nat × Value)).find? (·.1 == ii)).elim undef (·.2), by kernel_rfl, h33⟩
    · rintro _ w34 ⟨u28, rfl, h35⟩
      refine wp_seq ?_
      -- region 15
      refine wl_region ?_
      refine wl_val (.bool false) (by kernel_rfl) (run_lss (k := .i64) (a := min 16 (text.size - 16 * k)) (b := min 16 (text.size - (16 * k))) (by kernel_rfl) (by kernel_rfl) false (decide_eq_false (by omega))) ?_
      refine wl_nil ?_
      refine then_at (F := ⟨(.string key :: .string nonce :: .string text :: un :: un :: un :: .string { data := #[] } :: iN .i64 0 :: pt q1 :: pt q6 :: .slice (some ⟨q11, 0, none⟩) text.size cp12 :: iN .i64 (16 * k) :: pt q23 :: u28 13 :: .string key :: iN .i64 key.size :: .bool false :: .string nonce :: iN .i64 nonce.size :: .bool false :: .string text :: iN .i64 text.size :: .bool false :: .string key :: pt q1 :: .string nonce :: .string (nonce ++ nz) :: .agg (qc (colS ((nonce ++ nz)))) :: .string text :: .slice (some ⟨q11, 0, none⟩) text.size cp12 :: iN .i64 (16 * k) :: .slice (some ⟨q11, 0, none⟩) text.size cp12 :: iN .i64 text.size :: .bool true :: u16 34 :: u16 35 :: pt q1 :: .agg (qc (cq (colS (nonce ++ nz)) k)) :: .agg (qc (encQ (kwS key) (cq (colS (nonce ++ nz)) k))) :: .agg (bc (outQ (encQ (kwS key) (cq (colS (nonce ++ nz)) k)) 4)) :: .slice (some ⟨q11, 0, none⟩) text.size cp12 :: iN .i64 text.size :: iN .i64 (16 * k) :: iN .i64 (text.size - (16 * k)) :: iN .i64 (min 16 (text.size - (16 * k))) :: iN .i64 (min 16 (text.size - 16 * k)) :: .bool false :: u28 47 :: u28 48 :: u28 49 :: u28 50 :: u28 51 :: u28 52 :: u28 53 :: u28 54 :: u28 55 :: u28 56 :: u28 57 :: u28 58 :: u28 59 :: u16 60 :: u16 61 :: u16 62 :: u16 63 :: List.replicate 2 un).toArray, []⟩) (by kernel_rfl) ?_
      refine wp_seq ?_
      refine wp_cond_false (by kernel_rfl) ?_
      refine wp_exit ?_
      repeat first | refine then_exit ?_ | refine block_exit ?_ | refine block_exit_ne (by decide) ?_
      refine then_at (F := ⟨(.string key :: .string nonce :: .string text :: un :: un :: un :: .string { data := #[] } :: iN .i64 0 :: pt q1 :: pt q6 :: .slice (some ⟨q11, 0, none⟩) text.size cp12 :: iN .i64 (16 * k) :: pt q23 :: u28 13 :: .string key :: iN .i64 key.size :: .bool false :: .string nonce :: iN .i64 nonce.size :: .bool false :: .string text :: iN .i64 text.size :: .bool false :: .string key :: pt q1 :: .string nonce :: .string (nonce ++ nz) :: .agg (qc (colS ((nonce ++ nz)))) :: .string text :: .slice (some ⟨q11, 0, none⟩) text.size cp12 :: iN .i64 (16 * k) :: .slice (some ⟨q11, 0, none⟩) text.size cp12 :: iN .i64 text.size :: .bool true :: u16 34 :: u16 35 :: pt q1 :: .agg (qc (cq (colS (nonce ++ nz)) k)) :: .agg (qc (encQ (kwS key) (cq (colS (nonce ++ nz)) k))) :: .agg (bc (outQ (encQ (kwS key) (cq (colS (nonce ++ nz)) k)) 4)) :: .slice (some ⟨q11, 0, none⟩) text.size cp12 :: iN .i64 text.size :: iN .i64 (16 * k) :: iN .i64 (text.size - (16 * k)) :: iN .i64 (min 16 (text.size - (16 * k))) :: iN .i64 (min 16 (text.size - 16 * k)) :: .bool false :: u28 47 :: u28 48 :: u28 49 :: u28 50 :: u28 51 :: u28 52 :: u28 53 :: u28 54 :: u28 55 :: u28 56 :: u28 57 :: u28 58 :: u28 59 :: u16 60 :: u16 61 :: u16 62 :: u16 63 :: List.replicate 2 un).toArray, []⟩) (by kernel_rfl) ?_
      -- region 19
      refine wl_region ?_
      refine wl_val (.pointer (some ⟨q6, 3, none⟩)) (by kernel_rfl) (by kernel_rfl) ?_
      refine wl_val (bv .u32 ((cq (colS (nonce ++ nz)) k).d)) (by kernel_rfl) (run_load1 (fun w => Try.isAgg38 w) (by kernel_rfl) (((h35.get 2 rfl).cell 3).trans (by kernel_rfl))) ?_
      refine wl_val (bv .u32 (((cq (colS (nonce ++ nz)) k).d) + 1#32)) (by kernel_rfl) (run_addv WK.s (a := (cq (colS (nonce ++ nz)) k).d) (b := 1#32) (by kernel_rfl) (by kernel_rfl)) ?_
      refine wl_val (.pointer (some ⟨q6, 3, none⟩)) (by kernel_rfl) (by kernel_rfl) ?_
      refine wl_put (k := .u32) (z := (((((cq (colS (nonce ++ nz)) k).d) + 1#32).toNat : Nat) : Int)) h35 2 rfl 3 (by rw [qc_size]; decide) (by kernel_rfl) (fun w => Try.sizeOf38 w) (by kernel_rfl) (by kernel_rfl) ?_
      intro w36 h37
      have h38 : HA w [(q23, 37, bc (outQ (encQ (kwS key) (cq (colS (nonce ++ nz)) k)) 4)), (q11, 5, bc (xk (stS key nonce) (bl text) (16 * k + min 16 (text.size - 16 * k)) ++ List.replicate m13 0)), (q6, 40, qc (cq (colS (nonce ++ nz)) (k + 1))), (q1, 59, cc (kwS key))] w36 := by
        have e : (qc (cq (colS (nonce ++ nz)) k)).setIfInBounds 3 (.int .u32 (((((cq (colS (nonce ++ nz)) k).d) + 1#32).toNat : Nat) : Int)) = qc (cq (colS (nonce ++ nz)) (k + 1)) := (by kernel_rfl)
        rw [← e]; exact h37
      clear h37
      refine wl_nil ?_
      refine block_normal ?_
      refine then_at (F := ⟨(.string key :: .string nonce :: .string text :: un :: un :: un :: .string { data := #[] } :: iN .i64 0 :: pt q1 :: pt q6 :: .slice (some ⟨q11, 0, none⟩) text.size cp12 :: iN .i64 (16 * k) :: pt q23 :: u28 13 :: .string key :: iN .i64 key.size :: .bool false :: .string nonce :: iN .i64 nonce.size :: .bool false :: .string text :: iN .i64 text.size :: .bool false :: .string key :: pt q1 :: .string nonce :: .string (nonce ++ nz) :: .agg (qc (colS ((nonce ++ nz)))) :: .string text :: .slice (some ⟨q11, 0, none⟩) text.size cp12 :: iN .i64 (16 * k) :: .slice (some ⟨q11, 0, none⟩) text.size cp12 :: iN .i64 text.size :: .bool true :: u16 34 :: u16 35 :: pt q1 :: .agg (qc (cq (colS (nonce ++ nz)) k)) :: .agg (qc (encQ (kwS key) (cq (colS (nonce ++ nz)) k))) :: .agg (bc (outQ (encQ (kwS key) (cq (colS (nonce ++ nz)) k)) 4)) :: .slice (some ⟨q11, 0, none⟩) text.size cp12 :: iN .i64 text.size :: iN .i64 (16 * k) :: iN .i64 (text.size - (16 * k)) :: iN .i64 (min 16 (text.size - (16 * k))) :: iN .i64 (min 16 (text.size - 16 * k)) :: .bool false :: u28 47 :: u28 48 :: u28 49 :: u28 50 :: u28 51 :: u28 52 :: u28 53 :: u28 54 :: u28 55 :: u28 56 :: u28 57 :: u28 58 :: u28 59 :: .pointer (some ⟨q6, 3, none⟩) :: bv .u32 ((cq (colS (nonce ++ nz)) k).d) :: bv .u32 (((cq (colS (nonce ++ nz)) k).d) + 1#32) :: .pointer (some ⟨q6, 3, none⟩) :: List.replicate 2 un).toArray, []⟩) (by kernel_rfl) ?_
      -- region 12
      refine wl_region ?_
      refine wl_val (iN .i64 (16 * k)) (by kernel_rfl) (by kernel_rfl) ?_
      refine wl_val (iN .i64 ((16 * k) + 16)) (by kernel_rfl) (run_add (k := .i64) (a := 16 * k) (b := 16) (by kernel_rfl) (by kernel_rfl) (by simp only [top]; omega)) ?_
      refine wl_val (iN .i64 ((16 * k) + 16)) (by kernel_rfl) (by kernel_rfl) ?_
      refine wl_nil ?_
      exact then_I ⟨fun ii => (([(12, .pointer (some ⟨q23, 0, none⟩)), (13, u28 13), (30, iN .i64 (16 * k)), (31, .slice (some ⟨q11, 0, none⟩) text.size cp12), (32, iN .i64 text.size), (33, .bool true), (34, iN .i64 (16 * k)), (35, iN .i64 ((16 * k) + 16)), (36, .pointer (some ⟨q1, 0, none⟩)), (37, .agg (qc (cq (colS (nonce ++ nz)) k))), (38, .agg (qc (encQ (kwS key) (cq (colS (nonce ++ nz)) k)))), (39, .agg (bc (outQ (encQ (kwS key) (cq (colS (nonce ++ nz)) k)) 4))), (40, .slice (some ⟨q11, 0, none⟩) text.size cp12), (41, iN .i64 text.size), (42, iN .i64 (16 * k)), (43, iN .i64 (text.size - (16 * k))), (44, iN .i64 (min 16 (text.size - (16 * k)))), (45, iN .i64 (min 16 (text.size - 16 * k))), (46, .bool false), (47, u28 47), (48, u28 48), (49, u28 49), (50, u28 50), (51, u28 51), (52, u28 52), (53, u28 53), (54, u28 54), (55, u28 55), (56, u28 56), (57, u28 57), (58, u28 58), (59, u28 59), (60, .pointer (some ⟨q6, 3, none⟩)), (61, bv .u32 ((cq (colS (nonce ++ nz)) k).d)), (62, bv .u32 (((cq (colS (nonce ++ nz)) k).d) + 1#32)), (63, .pointer (some ⟨q6, 3, none⟩))] : List (Nat × Value)).find? (·.1 == ii)).elim undef (·.2), by kernel_rfl, (by rw [show min (16 * (k + 1)) text.size = 16 * k + min 16 (text.size - 16 * k) by omega]; exact h38.tl)⟩
  · rintro _ w39 ⟨u16, rfl, h40⟩
    refine wp_seq ?_
    refine wp_seq ?_
    -- region 11
    refine wl_region ?_
    refine wl_val (iN .i64 (16 * ((text.size + 15) / 16))) (by kernel_rfl) (by kernel_rfl) ?_
    refine wl_val (.slice (some ⟨q11, 0, none⟩) text.size cp12) (by kernel_rfl) (by kernel_rfl) ?_
    refine wl_val (iN .i64 text.size) (by kernel_rfl) (run_len28 (q := some ⟨q11, 0, none⟩) (m := text.size) (c := cp12) (by kernel_rfl)) ?_
    refine wl_val (.bool false) (by kernel_rfl) (run_lss (k := .i64) (a := 16 * ((text.size + 15) / 16)) (b := text.size) (by kernel_rfl) (by kernel_rfl) false (decide_eq_false (by omega))) ?_
    refine wl_nil ?_
    refine then_at (F := ⟨(.string key :: .string nonce :: .string text :: un :: un :: un :: .string { data := #[] } :: iN .i64 0 :: pt q1 :: pt q6 :: .slice (some ⟨q11, 0, none⟩) text.size cp12 :: iN .i64 (16 * ((text.size + 15) / 16)) :: u16 12 :: u16 13 :: .string key :: iN .i64 key.size :: .bool false :: .string nonce :: iN .i64 nonce.size :: .bool false :: .string text :: iN .i64 text.size :: .bool false :: .string key :: pt q1 :: .string nonce :: .string (nonce ++ nz) :: .agg (qc (colS ((nonce ++ nz)))) :: .string text :: .slice (some ⟨q11, 0, none⟩) text.size cp12 :: iN .i64 (16 * ((text.size + 15) / 16)) :: .slice (some ⟨q11, 0, none⟩) text.size cp12 :: iN .i64 text.size :: .bool false :: u16 34 :: u16 35 :: u16 36 :: u16 37 :: u16 38 :: u16 39 :: u16 40 :: u16 41 :: u16 42 :: u16 43 :: u16 44 :: u16 45 :: u16 46 :: u16 47 :: u16 48 :: u16 49 :: u16 50 :: u16 51 :: u16 52 :: u16 53 :: u16 54 :: u16 55 :: u16 56 :: u16 57 :: u16 58 :: u16 59 :: u16 60 :: u16 61 :: u16 62 :: u16 63 :: List.replicate 2 un).toArray, []⟩) (by kernel_rfl) ?_
    refine wp_cond_false (by kernel_rfl) ?_
    refine wp_exit ?_
    repeat first | refine then_exit ?_ | refine block_exit ?_ | refine block_exit_ne (by decide) ?_
    refine then_at (F := ⟨(.string key :: .string nonce :: .string text :: un :: un :: un :: .string { data := #[] } :: iN .i64 0 :: pt q1 :: pt q6 :: .slice (some ⟨q11, 0, none⟩) text.size cp12 :: iN .i64 (16 * ((text.size + 15) / 16)) :: u16 12 :: u16 13 :: .string key :: iN .i64 key.size :: .bool false :: .string nonce :: iN .i64 nonce.size :: .bool false :: .string text :: iN .i64 text.size :: .bool false :: .string key :: pt q1 :: .string nonce :: .string (nonce ++ nz) :: .agg (qc (colS ((nonce ++ nz)))) :: .string text :: .slice (some ⟨q11, 0, none⟩) text.size cp12 :: iN .i64 (16 * ((text.size + 15) / 16)) :: .slice (some ⟨q11, 0, none⟩) text.size cp12 :: iN .i64 text.size :: .bool false :: u16 34 :: u16 35 :: u16 36 :: u16 37 :: u16 38 :: u16 39 :: u16 40 :: u16 41 :: u16 42 :: u16 43 :: u16 44 :: u16 45 :: u16 46 :: u16 47 :: u16 48 :: u16 49 :: u16 50 :: u16 51 :: u16 52 :: u16 53 :: u16 54 :: u16 55 :: u16 56 :: u16 57 :: u16 58 :: u16 59 :: u16 60 :: u16 61 :: u16 62 :: u16 63 :: List.replicate 2 un).toArray, []⟩) (by kernel_rfl) ?_
    refine wp_seq ?_
    -- region 20
    refine wl_region ?_
    refine wl_val (.slice (some ⟨q11, 0, none⟩) text.size cp12) (by kernel_rfl) (by kernel_rfl) ?_
    refine wl_val (.string (⟨((xk (stS key nonce) (bl text) (min (16 * ((text.size + 15) / 16)) text.size) ++ List.replicate m13 0).take text.size).toArray⟩)) (by kernel_rfl) (run_textg (q := q11) (m := text.size) (c := cp12) (l := xk (stS key nonce) (bl text) (min (16 * ((text.size + 15) / 16)) text.size) ++ List.replicate m13 0) (by kernel_rfl) (h40.get 0 rfl) (by rw [xb_len, bl_len]; omega)) ?_
    refine wl_val (.string (⟨((xk (stS key nonce) (bl text) (min (16 * ((text.size + 15) / 16)) text.size) ++ List.replicate m13 0).take text.size).toArray⟩)) (by kernel_rfl) (by kernel_rfl) ?_
    refine wl_val (iN .i64 0) (by kernel_rfl) (by kernel_rfl) ?_
    refine wl_nil ?_
    refine then_at (F := ⟨(.string key :: .string nonce :: .string text :: un :: un :: un :: .string (⟨((xk (stS key nonce) (bl text) (min (16 * ((text.size + 15) / 16)) text.size) ++ List.replicate m13 0).take text.size).toArray⟩) :: iN .i64 0 :: pt q1 :: pt q6 :: .slice (some ⟨q11, 0, none⟩) text.size cp12 :: iN .i64 (16 * ((text.size + 15) / 16)) :: u16 12 :: u16 13 :: .string key :: iN .i64 key.size :: .bool false :: .string nonce :: iN .i64 nonce.size :: .bool false :: .string text :: iN .i64 text.size :: .bool false :: .string key :: pt q1 :: .string nonce :: .string (nonce ++ nz) :: .agg (qc (colS ((nonce ++ nz)))) :: .string text :: .slice (some ⟨q11, 0, none⟩) text.size cp12 :: iN .i64 (16 * ((text.size + 15) / 16)) :: .slice (some ⟨q11, 0, none⟩) text.size cp12 :: iN .i64 text.size :: .bool false :: u16 34 :: u16 35 :: u16 36 :: u16 37 :: u16 38 :: u16 39 :: u16 40 :: u16 41 :: u16 42 :: u16 43 :: u16 44 :: u16 45 :: u16 46 :: u16 47 :: u16 48 :: u16 49 :: u16 50 :: u16 51 :: u16 52 :: u16 53 :: u16 54 :: u16 55 :: u16 56 :: u16 57 :: u16 58 :: u16 59 :: u16 60 :: u16 61 :: u16 62 :: u16 63 :: .slice (some ⟨q11, 0, none⟩) text.size cp12 :: .string (⟨((xk (stS key nonce) (bl text) (min (16 * ((text.size + 15) / 16)) text.size) ++ List.replicate m13 0).take text.size).toArray⟩) :: List.replicate 0 un).toArray, []⟩) (by kernel_rfl) ?_
    refine wp_ret ?_
    repeat first | refine then_ret ?_ | refine block_ret ?_
    exact bodyPost_ret (v := .tuple #[.string (⟨((xk (stS key nonce) (bl text) (min (16 * ((text.size + 15) / 16)) text.size) ++ List.replicate m13 0).take text.size).toArray⟩), iN .i64 0]) (by kernel_rfl) rfl ⟨by rw [fin_x]; rfl, h40.old⟩

set_option linter.unusedVariables false in
set_option maxRecDepth 100000 in
set_option maxHeartbeats 2000000 in
theorem Ctr_no1 (key nonce text : ByteArray) (hk : key.size ≠ 32) (w : World) :
    Calls Try.prog 11 #[.string key, .string nonce, .string text] w fun e w' => e = .returned (.tuple #[.string { data := #[] }, iN .i64 8]) ∧ Below w.heap.size w w' := by
  have H0 := HA.start w
  go_enter Try.func11, Try.ntmps11
  refine wp_seq ?_
  -- region 0
  refine wl_region ?_
  refine wl_val (.string { data := #[] }) (by kernel_rfl) (by kernel_rfl) ?_
  refine wl_val (iN .i64 0) (by kernel_rfl) (by kernel_rfl) ?_
  refine wl_nil ?_
  refine then_at (F := ⟨(.string key :: .string nonce :: .string text :: un :: un :: un :: .string { data := #[] } :: iN .i64 0 :: List.replicate 58 un).toArray, []⟩) (by kernel_rfl) ?_
  refine wp_seq ?_
  refine wp_seq ?_
  -- region 1
  refine wl_region ?_
  refine wl_val (.string key) (by kernel_rfl) (by kernel_rfl) ?_
  refine wl_val (iN .i64 key.size) (by kernel_rfl) (run_len (s := key) (by kernel_rfl)) ?_
  refine wl_val (.bool true) (by kernel_rfl) (run_nei (k := .i64) (a := key.size) (b := 32) (by kernel_rfl) (by kernel_rfl) true (decide_eq_true hk)) ?_
  refine wl_nil ?_
  refine then_at (F := ⟨(.string key :: .string nonce :: .string text :: un :: un :: un :: .string { data := #[] } :: iN .i64 0 :: un :: un :: un :: un :: un :: un :: .string key :: iN .i64 key.size :: .bool true :: List.replicate 49 un).toArray, []⟩) (by kernel_rfl) ?_
  refine wp_cond_true (by kernel_rfl) ?_
  refine wp_seq ?_
  -- region 2
  refine wl_region ?_
  refine wl_val (.string { data := #[] }) (by kernel_rfl) (by kernel_rfl) ?_
  refine wl_val (iN .i64 8) (by kernel_rfl) (by kernel_rfl) ?_
  refine wl_nil ?_
  refine then_at (F := ⟨(.string key :: .string nonce :: .string text :: un :: un :: un :: .string { data := #[] } :: iN .i64 8 :: un :: un :: un :: un :: un :: un :: .string key :: iN .i64 key.size :: .bool true :: List.replicate 49 un).toArray, []⟩) (by kernel_rfl) ?_
  refine wp_ret ?_
  repeat first | refine then_ret ?_ | refine block_ret ?_
  exact bodyPost_ret (v := .tuple #[.string { data := #[] }, iN .i64 8]) (by kernel_rfl) rfl ⟨rfl, H0.old⟩

set_option linter.unusedVariables false in
set_option maxRecDepth 100000 in
set_option maxHeartbeats 2000000 in
theorem Ctr_no2 (key nonce text : ByteArray) (hk : key.size = 32) (hn : nonce.size ≠ 12) (w : World) :
    Calls Try.prog 11 #[.string key, .string nonce, .string text] w fun e w' => e = .returned (.tuple #[.string { data := #[] }, iN .i64 2]) ∧ Below w.heap.size w w' := by
  have H0 := HA.start w
  go_enter Try.func11, Try.ntmps11
  refine wp_seq ?_
  -- region 0
  refine wl_region ?_
  refine wl_val (.string { data := #[] }) (by kernel_rfl) (by kernel_rfl) ?_
  refine wl_val (iN .i64 0) (by kernel_rfl) (by kernel_rfl) ?_
  refine wl_nil ?_
  refine then_at (F := ⟨(.string key :: .string nonce :: .string text :: un :: un :: un :: .string { data := #[] } :: iN .i64 0 :: List.replicate 58 un).toArray, []⟩) (by kernel_rfl) ?_
  refine wp_seq ?_
  refine wp_seq ?_
  -- region 1
  refine wl_region ?_
  refine wl_val (.string key) (by kernel_rfl) (by kernel_rfl) ?_
  refine wl_val (iN .i64 key.size) (by kernel_rfl) (run_len (s := key) (by kernel_rfl)) ?_
  refine wl_val (.bool false) (by kernel_rfl) (run_nei (k := .i64) (a := key.size) (b := 32) (by kernel_rfl) (by kernel_rfl) false (decide_eq_false (fun h => h hk))) ?_
  refine wl_nil ?_
  refine then_at (F := ⟨(.string key :: .string nonce :: .string text :: un :: un :: un :: .string { data := #[] } :: iN .i64 0 :: un :: un :: un :: un :: un :: un :: .string key :: iN .i64 key.size :: .bool false :: List.replicate 49 un).toArray, []⟩) (by kernel_rfl) ?_
  refine wp_cond_false (by kernel_rfl) ?_
  refine wp_skip ?_
  refine then_at (F := ⟨(.string key :: .string nonce :: .string text :: un :: un :: un :: .string { data := #[] } :: iN .i64 0 :: un :: un :: un :: un :: un :: un :: .string key :: iN .i64 key.size :: .bool false :: List.replicate 49 un).toArray, []⟩) (by kernel_rfl) ?_
  refine wp_seq ?_
  refine wp_seq ?_
  -- region 3
  refine wl_region ?_
  refine wl_val (.string nonce) (by kernel_rfl) (by kernel_rfl) ?_
  refine wl_val (iN .i64 nonce.size) (by kernel_rfl) (run_len (s := nonce) (by kernel_rfl)) ?_
  refine wl_val (.bool true) (by kernel_rfl) (run_nei (k := .i64) (a := nonce.size) (b := 12) (by kernel_rfl) (by kernel_rfl) true (decide_eq_true hn)) ?_
  refine wl_nil ?_
  refine then_at (F := ⟨(.string key :: .string nonce :: .string text :: un :: un :: un :: .string { data := #[] } :: iN .i64 0 :: un :: un :: un :: un :: un :: un :: .string key :: iN .i64 key.size :: .bool false :: .string nonce :: iN .i64 nonce.size :: .bool true :: List.replicate 46 un).toArray, []⟩) (by kernel_rfl) ?_
  refine wp_cond_true (by kernel_rfl) ?_
  refine wp_seq ?_
  -- region 4
  refine wl_region ?_
  refine wl_val (.string { data := #[] }) (by kernel_rfl) (by kernel_rfl) ?_
  refine wl_val (iN .i64 2) (by kernel_rfl) (by kernel_rfl) ?_
  refine wl_nil ?_
  refine then_at (F := ⟨(.string key :: .string nonce :: .string text :: un :: un :: un :: .string { data := #[] } :: iN .i64 2 :: un :: un :: un :: un :: un :: un :: .string key :: iN .i64 key.size :: .bool false :: .string nonce :: iN .i64 nonce.size :: .bool true :: List.replicate 46 un).toArray, []⟩) (by kernel_rfl) ?_
  refine wp_ret ?_
  repeat first | refine then_ret ?_ | refine block_ret ?_
  exact bodyPost_ret (v := .tuple #[.string { data := #[] }, iN .i64 2]) (by kernel_rfl) rfl ⟨rfl, H0.old⟩

set_option linter.unusedVariables false in
set_option maxRecDepth 100000 in
set_option maxHeartbeats 2000000 in
theorem Ctr_no3 (key nonce text : ByteArray) (hk : key.size = 32) (hn : nonce.size = 12) (ht : 1048576 < text.size) (w : World) :
    Calls Try.prog 11 #[.string key, .string nonce, .string text] w fun e w' => e = .returned (.tuple #[.string { data := #[] }, iN .i64 3]) ∧ Below w.heap.size w w' := by
  have H0 := HA.start w
  go_enter Try.func11, Try.ntmps11
  refine wp_seq ?_
  -- region 0
  refine wl_region ?_
  refine wl_val (.string { data := #[] }) (by kernel_rfl) (by kernel_rfl) ?_
  refine wl_val (iN .i64 0) (by kernel_rfl) (by kernel_rfl) ?_
  refine wl_nil ?_
  refine then_at (F := ⟨(.string key :: .string nonce :: .string text :: un :: un :: un :: .string { data := #[] } :: iN .i64 0 :: List.replicate 58 un).toArray, []⟩) (by kernel_rfl) ?_
  refine wp_seq ?_
  refine wp_seq ?_
  -- region 1
  refine wl_region ?_
  refine wl_val (.string key) (by kernel_rfl) (by kernel_rfl) ?_
  refine wl_val (iN .i64 key.size) (by kernel_rfl) (run_len (s := key) (by kernel_rfl)) ?_
  refine wl_val (.bool false) (by kernel_rfl) (run_nei (k := .i64) (a := key.size) (b := 32) (by kernel_rfl) (by kernel_rfl) false (decide_eq_false (fun h => h hk))) ?_
  refine wl_nil ?_
  refine then_at (F := ⟨(.string key :: .string nonce :: .string text :: un :: un :: un :: .string { data := #[] } :: iN .i64 0 :: un :: un :: un :: un :: un :: un :: .string key :: iN .i64 key.size :: .bool false :: List.replicate 49 un).toArray, []⟩) (by kernel_rfl) ?_
  refine wp_cond_false (by kernel_rfl) ?_
  refine wp_skip ?_
  refine then_at (F := ⟨(.string key :: .string nonce :: .string text :: un :: un :: un :: .string { data := #[] } :: iN .i64 0 :: un :: un :: un :: un :: un :: un :: .string key :: iN .i64 key.size :: .bool false :: List.replicate 49 un).toArray, []⟩) (by kernel_rfl) ?_
  refine wp_seq ?_
  refine wp_seq ?_
  -- region 3
  refine wl_region ?_
  refine wl_val (.string nonce) (by kernel_rfl) (by kernel_rfl) ?_
  refine wl_val (iN .i64 nonce.size) (by kernel_rfl) (run_len (s := nonce) (by kernel_rfl)) ?_
  refine wl_val (.bool false) (by kernel_rfl) (run_nei (k := .i64) (a := nonce.size) (b := 12) (by kernel_rfl) (by kernel_rfl) false (decide_eq_false (fun h => h hn))) ?_
  refine wl_nil ?_
  refine then_at (F := ⟨(.string key :: .string nonce :: .string text :: un :: un :: un :: .string { data := #[] } :: iN .i64 0 :: un :: un :: un :: un :: un :: un :: .string key :: iN .i64 key.size :: .bool false :: .string nonce :: iN .i64 nonce.size :: .bool false :: List.replicate 46 un).toArray, []⟩) (by kernel_rfl) ?_
  refine wp_cond_false (by kernel_rfl) ?_
  refine wp_skip ?_
  refine then_at (F := ⟨(.string key :: .string nonce :: .string text :: un :: un :: un :: .string { data := #[] } :: iN .i64 0 :: un :: un :: un :: un :: un :: un :: .string key :: iN .i64 key.size :: .bool false :: .string nonce :: iN .i64 nonce.size :: .bool false :: List.replicate 46 un).toArray, []⟩) (by kernel_rfl) ?_
  refine wp_seq ?_
  refine wp_seq ?_
  -- region 5
  refine wl_region ?_
  refine wl_val (.string text) (by kernel_rfl) (by kernel_rfl) ?_
  refine wl_val (iN .i64 text.size) (by kernel_rfl) (run_len (s := text) (by kernel_rfl)) ?_
  refine wl_val (.bool true) (by kernel_rfl) (run_gtr (k := .i64) (a := text.size) (b := 1048576) (by kernel_rfl) (by kernel_rfl) true (decide_eq_true ht)) ?_
  refine wl_nil ?_
  refine then_at (F := ⟨(.string key :: .string nonce :: .string text :: un :: un :: un :: .string { data := #[] } :: iN .i64 0 :: un :: un :: un :: un :: un :: un :: .string key :: iN .i64 key.size :: .bool false :: .string nonce :: iN .i64 nonce.size :: .bool false :: .string text :: iN .i64 text.size :: .bool true :: List.replicate 43 un).toArray, []⟩) (by kernel_rfl) ?_
  refine wp_cond_true (by kernel_rfl) ?_
  refine wp_seq ?_
  -- region 6
  refine wl_region ?_
  refine wl_val (.string { data := #[] }) (by kernel_rfl) (by kernel_rfl) ?_
  refine wl_val (iN .i64 3) (by kernel_rfl) (by kernel_rfl) ?_
  refine wl_nil ?_
  refine then_at (F := ⟨(.string key :: .string nonce :: .string text :: un :: un :: un :: .string { data := #[] } :: iN .i64 3 :: un :: un :: un :: un :: un :: un :: .string key :: iN .i64 key.size :: .bool false :: .string nonce :: iN .i64 nonce.size :: .bool false :: .string text :: iN .i64 text.size :: .bool true :: List.replicate 43 un).toArray, []⟩) (by kernel_rfl) ?_
  refine wp_ret ?_
  repeat first | refine then_ret ?_ | refine block_ret ?_
  exact bodyPost_ret (v := .tuple #[.string { data := #[] }, iN .i64 3]) (by kernel_rfl) rfl ⟨rfl, H0.old⟩
end Go.Proofs.Ythljhhhjdajfhaa
