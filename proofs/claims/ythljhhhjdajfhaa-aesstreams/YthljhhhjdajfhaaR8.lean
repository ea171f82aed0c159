/-
  The reference: texts; AesStreams.
-/
import Derived.Test.YthljhhhjdajfhaaRG
import Derived.Test.YthljhhhjdajfhaaAf
namespace Go.Proofs.Ythljhhhjdajfhaa
open Go.RowKit

/-- the stream's bytes that are at hand ahead of byte i -/
def sb (key nonce : ByteArray) : Nat → List UInt8
  | 0 => List.replicate 16 0
  | i + 1 => blkP (kwS key) (cq (colS (nonce ++ nz)) (i / 16))
theorem sb_len (key nonce : ByteArray) : ∀ i, (sb key nonce i).length = 16
  | 0 => List.length_replicate
  | _ + 1 => blkP_len _ _
theorem sb_same (key nonce : ByteArray) (k : Nat) (h : ¬ k % 16 = 0) : sb key nonce k = sb key nonce (k + 1) := by
  cases k with
  | zero => exact absurd rfl h
  | succ k => rw [sb, sb, show k / 16 = (k + 1) / 16 by omega]
theorem sb_at (key nonce : ByteArray) (k : Nat) : (sb key nonce (k + 1)).getD (k % 16) 0 = stS key nonce k := rfl
def rcL (key nonce text : ByteArray) : Nat → List UInt8
  | 0 => []
  | k + 1 => rcL key nonce text k ++ [(bl text).getD k 0 ^^^ (sb key nonce (k + 1)).getD (k % 16) 0]
theorem rcL_len (key nonce text : ByteArray) : ∀ k, (rcL key nonce text k).length = k
  | 0 => rfl
  | k + 1 => by rw [rcL, List.length_append, rcL_len key nonce text k]; rfl
theorem rcL_get (key nonce text : ByteArray) : ∀ k j, j < k → (rcL key nonce text k).getD j 0 = (bl text).getD j 0 ^^^ stS key nonce j
  | 0, _, h => absurd h (Nat.not_lt_zero _)
  | k + 1, j, h => by
    rw [rcL]
    by_cases e : j < k
    · rw [app_lo _ _ _ (by rw [rcL_len]; exact e), rcL_get key nonce text k j e]
    · obtain rfl : j = k := by omega
      have this : (rcL key nonce text j ++ [(bl text).getD j 0 ^^^ (sb key nonce (j + 1)).getD (j % 16) 0]).getD j 0 = [(bl text).getD j 0 ^^^ (sb key nonce (j + 1)).getD (j % 16) 0].getD 0 0 := app_hi _ _ 0 j (rcL_len _ _ _ _)
      rw [this]
      rfl
theorem rcL_all (key nonce text : ByteArray) : rcL key nonce text text.size = ctrL key nonce text :=
  list_ext0 (by rw [rcL_len, ctrL_len]) fun j hj => by
    rw [rcL_len] at hj
    rw [rcL_get _ _ _ _ _ hj, ctrL_get _ _ _ _ hj]
theorem ne5 {a b c : Nat × TypeId × Array Value} (ha : a.2.1 ≠ 5) (hb : b.2.1 ≠ 5) (hc : c.2.1 ≠ 5) : ∀ x ∈ [a, b, c], x.2.1 ≠ 5 := by
  intro x hx
  rcases List.mem_cons.1 hx with rfl | hx
  · exact ha
  · rcases List.mem_cons.1 hx with rfl | hx
    · exact hb
    · rcases List.mem_cons.1 hx with rfl | hx
      · exact hc
      · cases hx
theorem put_four (s : ByteArray) (n : Nat) : s ++ ⟨([UInt8.ofNat (n / 2 ^ 24), UInt8.ofNat (n / 2 ^ 16), UInt8.ofNat (n / 2 ^ 8), UInt8.ofNat n].take 4).toArray⟩ = putS s n := by
  apply bl_inj
  rw [bl_app]
  show _ = p4 s n
  rw [p4_app, Nat.pow_zero, Nat.div_one]
  rfl

set_option linter.unusedVariables false in
set_option maxRecDepth 100000 in
set_option maxHeartbeats 2000000 in
theorem RCtr_yes (key nonce text : ByteArray) (hk : key.size = 32) (hn : nonce.size = 12) (ht : text.size ≤ 1048576) (w : World) :
    Calls Try.prog 12 #[.string key, .string nonce, .string text] w fun e w' => e = .returned (.tuple #[.string (ctrS key nonce text), iN .i64 0]) ∧ Below w.heap.size w w' := by
  have H0 := HA.start w
  go_enter Try.func12, Try.ntmps12
  refine wp_seq ?_
  -- region 0
  refine wl_region ?_
  refine wl_val (.string { data := #[] }) (by kernel_rfl) (by kernel_rfl) ?_
  refine wl_val (iN .i64 0) (by kernel_rfl) (by kernel_rfl) ?_
  refine wl_nil ?_
  refine then_at (F := ⟨(.string key :: .string nonce :: .string text :: un :: un :: un :: .string { data := #[] } :: iN .i64 0 :: List.replicate 62 un).toArray, []⟩) (by kernel_rfl) ?_
  refine wp_seq ?_
  refine wp_seq ?_
  -- region 1
  refine wl_region ?_
  refine wl_val (.string key) (by kernel_rfl) (by kernel_rfl) ?_
  refine wl_val (iN .i64 key.size) (by kernel_rfl) (run_len (s := key) (by kernel_rfl)) ?_
  refine wl_val (.bool false) (by kernel_rfl) (run_nei (k := .i64) (a := key.size) (b := 32) (by kernel_rfl) (by kernel_rfl) false (decide_eq_false (fun h => h hk))) ?_
  refine wl_nil ?_
  refine then_at (F := ⟨(.string key :: .string nonce :: .string text :: un :: un :: un :: .string { data := #[] } :: iN .i64 0 :: un :: un :: un :: un :: un :: un :: .string key :: iN .i64 key.size :: .bool false :: List.replicate 53 un).toArray, []⟩) (by kernel_rfl) ?_
  refine wp_cond_false (by kernel_rfl) ?_
  refine wp_skip ?_
  refine then_at (F := ⟨(.string key :: .string nonce :: .string text :: un :: un :: un :: .string { data := #[] } :: iN .i64 0 :: un :: un :: un :: un :: un :: un :: .string key :: iN .i64 key.size :: .bool false :: List.replicate 53 un).toArray, []⟩) (by kernel_rfl) ?_
  refine wp_seq ?_
  refine wp_seq ?_
  -- region 3
  refine wl_region ?_
  refine wl_val (.string nonce) (by kernel_rfl) (by kernel_rfl) ?_
  refine wl_val (iN .i64 nonce.size) (by kernel_rfl) (run_len (s := nonce) (by kernel_rfl)) ?_
  refine wl_val (.bool false) (by kernel_rfl) (run_nei (k := .i64) (a := nonce.size) (b := 12) (by kernel_rfl) (by kernel_rfl) false (decide_eq_false (fun h => h hn))) ?_
  refine wl_nil ?_
  refine then_at (F := ⟨(.string key :: .string nonce :: .string text :: un :: un :: un :: .string { data := #[] } :: iN .i64 0 :: un :: un :: un :: un :: un :: un :: .string key :: iN .i64 key.size :: .bool false :: .string nonce :: iN .i64 nonce.size :: .bool false :: List.replicate 50 un).toArray, []⟩) (by kernel_rfl) ?_
  refine wp_cond_false (by kernel_rfl) ?_
  refine wp_skip ?_
  refine then_at (F := ⟨(.string key :: .string nonce :: .string text :: un :: un :: un :: .string { data := #[] } :: iN .i64 0 :: un :: un :: un :: un :: un :: un :: .string key :: iN .i64 key.size :: .bool false :: .string nonce :: iN .i64 nonce.size :: .bool false :: List.replicate 50 un).toArray, []⟩) (by kernel_rfl) ?_
  refine wp_seq ?_
  refine wp_seq ?_
  -- region 5
  refine wl_region ?_
  refine wl_val (.string text) (by kernel_rfl) (by kernel_rfl) ?_
  refine wl_val (iN .i64 text.size) (by kernel_rfl) (run_len (s := text) (by kernel_rfl)) ?_
  refine wl_val (.bool false) (by kernel_rfl) (run_gtr (k := .i64) (a := text.size) (b := 1048576) (by kernel_rfl) (by kernel_rfl) false (decide_eq_false (by omega))) ?_
  refine wl_nil ?_
  refine then_at (F := ⟨(.string key :: .string nonce :: .string text :: un :: un :: un :: .string { data := #[] } :: iN .i64 0 :: un :: un :: un :: un :: un :: un :: .string key :: iN .i64 key.size :: .bool false :: .string nonce :: iN .i64 nonce.size :: .bool false :: .string text :: iN .i64 text.size :: .bool false :: List.replicate 47 un).toArray, []⟩) (by kernel_rfl) ?_
  refine wp_cond_false (by kernel_rfl) ?_
  refine wp_skip ?_
  refine then_at (F := ⟨(.string key :: .string nonce :: .string text :: un :: un :: un :: .string { data := #[] } :: iN .i64 0 :: un :: un :: un :: un :: un :: un :: .string key :: iN .i64 key.size :: .bool false :: .string nonce :: iN .i64 nonce.size :: .bool false :: .string text :: iN .i64 text.size :: .bool false :: List.replicate 47 un).toArray, []⟩) (by kernel_rfl) ?_
  refine wp_seq ?_
  -- region 7
  refine wl_region ?_
  refine wl_call (v := .agg (bc boxL)) H0 (by kernel_rfl) enter21 #[] (by kernel_rfl) (boxes_any w) ?_
  intro w1 h2
  refine wl_make h2 46 (by kernel_rfl) run_alloc46 ?_
  intro q3 w4 h5
  refine wl_fill (c' := bc boxL) h5 0 rfl (by kernel_rfl) (by kernel_rfl) (by kernel_rfl) (by rw [bc_size, bc_size, boxL_len, (List.length_replicate)]) (info46 boxL boxL_len) (one_bc boxL) ?_
  intro w6 (h7 : HA w [(q3, 46, bc boxL)] w6)
  refine wl_nil ?_
  refine then_at (F := ⟨(.string key :: .string nonce :: .string text :: un :: un :: un :: .string { data := #[] } :: iN .i64 0 :: pt q3 :: un :: un :: un :: un :: un :: .string key :: iN .i64 key.size :: .bool false :: .string nonce :: iN .i64 nonce.size :: .bool false :: .string text :: iN .i64 text.size :: .bool false :: .agg (bc boxL) :: List.replicate 46 un).toArray, []⟩) (by kernel_rfl) ?_
  refine wp_seq ?_
  -- region 8
  refine wl_region ?_
  refine wl_val (.string key) (by kernel_rfl) (by kernel_rfl) ?_
  refine wl_load h7 0 rfl (by kernel_rfl) (by kernel_rfl) Try.underlying46 rfl (info46 boxL boxL_len) ?_
  refine wl_call (v := .agg (bc (flatW (kwS key)))) h7 (by kernel_rfl) enter23 #[.string key, .agg (bc boxL)] (by kernel_rfl) (keys_any key hk w6) ?_
  intro w8 h9
  refine wl_make h9 50 (by kernel_rfl) run_alloc50 ?_
  intro q10 w11 h12
  refine wl_fill (c' := bc (flatW (kwS key))) h12 0 rfl (by kernel_rfl) (by kernel_rfl) (by kernel_rfl) (by rw [bc_size, bc_size, (flatW_len key), (List.length_replicate)]) (info50 (flatW (kwS key)) (flatW_len key)) (one_bc (flatW (kwS key))) ?_
  intro w13 (h14 : HA w [(q10, 50, bc (flatW (kwS key))), (q3, 46, bc boxL)] w13)
  refine wl_nil ?_
  refine then_at (F := ⟨(.string key :: .string nonce :: .string text :: un :: un :: un :: .string { data := #[] } :: iN .i64 0 :: pt q3 :: pt q10 :: un :: un :: un :: un :: .string key :: iN .i64 key.size :: .bool false :: .string nonce :: iN .i64 nonce.size :: .bool false :: .string text :: iN .i64 text.size :: .bool false :: .agg (bc boxL) :: .string key :: .agg (bc boxL) :: .agg (bc (flatW (kwS key))) :: List.replicate 43 un).toArray, []⟩) (by kernel_rfl) ?_
  refine wp_seq ?_
  -- region 9
  refine wl_region ?_
  refine wl_val (.slice none 0 0) (by kernel_rfl) (by kernel_rfl) ?_
  refine wl_nil ?_
  refine then_at (F := ⟨(.string key :: .string nonce :: .string text :: un :: un :: un :: .string { data := #[] } :: iN .i64 0 :: pt q3 :: pt q10 :: .slice none 0 0 :: un :: un :: un :: .string key :: iN .i64 key.size :: .bool false :: .string nonce :: iN .i64 nonce.size :: .bool false :: .string text :: iN .i64 text.size :: .bool false :: .agg (bc boxL) :: .string key :: .agg (bc boxL) :: .agg (bc (flatW (kwS key))) :: List.replicate 43 un).toArray, []⟩) (by kernel_rfl) ?_
  refine wp_seq ?_
  -- region 10
  refine wl_region ?_
  refine wl_make h14 37 (by kernel_rfl) run_alloc37 ?_
  intro q15 w16 h17
  refine wl_nil ?_
  refine then_at (F := ⟨(.string key :: .string nonce :: .string text :: un :: un :: un :: .string { data := #[] } :: iN .i64 0 :: pt q3 :: pt q10 :: .slice none 0 0 :: pt q15 :: un :: un :: .string key :: iN .i64 key.size :: .bool false :: .string nonce :: iN .i64 nonce.size :: .bool false :: .string text :: iN .i64 text.size :: .bool false :: .agg (bc boxL) :: .string key :: .agg (bc boxL) :: .agg (bc (flatW (kwS key))) :: List.replicate 43 un).toArray, []⟩) (by kernel_rfl) ?_
  refine wp_seq ?_
  refine wp_seq ?_
  -- region 11
  refine wl_region ?_
  refine wl_val (iN .i64 0) (by kernel_rfl) (by kernel_rfl) ?_
  refine wl_nil ?_
  refine then_at (F := ⟨(.string key :: .string nonce :: .string text :: un :: un :: un :: .string { data := #[] } :: iN .i64 0 :: pt q3 :: pt q10 :: .slice none 0 0 :: pt q15 :: iN .i64 0 :: un :: .string key :: iN .i64 key.size :: .bool false :: .string nonce :: iN .i64 nonce.size :: .bool false :: .string text :: iN .i64 text.size :: .bool false :: .agg (bc boxL) :: .string key :: .agg (bc boxL) :: .agg (bc (flatW (kwS key))) :: List.replicate 43 un).toArray, []⟩) (by kernel_rfl) ?_
  refine wp_block ?_
  refine wp_count (fun k A w' => ∃ u18 : Nat → Value, A = ⟨(.string key :: .string nonce :: .string text :: un :: un :: un :: .string { data := #[] } :: iN .i64 0 :: pt q3 :: pt q10 :: u18 10 :: pt q15 :: iN .i64 k :: u18 13 :: .string key :: iN .i64 key.size :: .bool false :: .string nonce :: iN .i64 nonce.size :: .bool false :: .string text :: iN .i64 text.size :: .bool false :: .agg (bc boxL) :: .string key :: .agg (bc boxL) :: .agg (bc (flatW (kwS key))) :: u18 27 :: u18 28 :: u18 29 :: u18 30 :: u18 31 :: u18 32 :: u18 33 :: u18 34 :: u18 35 :: u18 36 :: u18 37 :: u18 38 :: u18 39 :: u18 40 :: u18 41 :: u18 42 :: u18 43 :: u18 44 :: u18 45 :: u18 46 :: u18 47 :: u18 48 :: u18 49 :: u18 50 :: u18 51 :: u18 52 :: u18 53 :: u18 54 :: u18 55 :: u18 56 :: u18 57 :: u18 58 :: u18 59 :: u18 60 :: u18 61 :: u18 62 :: u18 63 :: u18 64 :: u18 65 :: u18 66 :: u18 67 :: List.replicate 2 un).toArray, []⟩ ∧ HA w [(q15, 37, bc (sb key nonce k)), (q10, 50, bc (flatW (kwS key))), (q3, 46, bc boxL)] w' ∧ OW w [(q15, 37, bc (sb key nonce k)), (q10, 50, bc (flatW (kwS key))), (q3, 46, bc boxL)] (u18 10) k (rcL key nonce text k) w') text.size ?_ ?_ ?_
  · exact ⟨fun ii => (([(10, .slice none 0 0), (13, undef), (27, undef), (28, undef), (29, undef), (30, undef), (31, undef), (32, undef), (33, undef), (34, undef), (35, undef), (36, undef), (37, undef), (38, undef), (39, undef), (40, undef), (41, undef), (42, undef), (43, undef), (44, undef), (45, undef), (46, undef), (47, undef), (48, undef), (49, undef), (50, undef), (51, undef), (52, undef), (53, undef), (54, undef), (55, undef), (56, undef), (57, undef), (58, undef), (59, undef), (60, undef), (61, undef), (62, undef), (63, undef), (64, undef), (65, undef), (66, undef), (67, undef)] : List (Nat × Value)).find? (·.1 == ii)).elim undef (·.2), by kernel_rfl, h17, (by exact OW.begin h17)⟩
  · rintro k hk _ w19 ⟨u18, rfl, h20, hp⟩
    refine wp_seq ?_
    refine wp_seq ?_
    -- region 12
    refine wl_region ?_
    refine wl_val (iN .i64 k) (by kernel_rfl) (by kernel_rfl) ?_
    refine wl_val (.string text) (by kernel_rfl) (by kernel_rfl) ?_
    refine wl_val (iN .i64 text.size) (by kernel_rfl) (run_len (s := text) (by kernel_rfl)) ?_
    refine wl_val (.bool true) (by kernel_rfl) (run_lss (k := .i64) (a := k) (b := text.size) (by kernel_rfl) (by kernel_rfl) true (decide_eq_true (by omega))) ?_
    refine wl_nil ?_
    refine then_at (F := ⟨(.string key :: .string nonce :: .string text :: un :: un :: un :: .string { data := #[] } :: iN .i64 0 :: pt q3 :: pt q10 :: u18 10 :: pt q15 :: iN .i64 k :: u18 13 :: .string key :: iN .i64 key.size :: .bool false :: .string nonce :: iN .i64 nonce.size :: .bool false :: .string text :: iN .i64 text.size :: .bool false :: .agg (bc boxL) :: .string key :: .agg (bc boxL) :: .agg (bc (flatW (kwS key))) :: iN .i64 k :: .string text :: iN .i64 text.size :: .bool true :: u18 31 :: u18 32 :: u18 33 :: u18 34 :: u18 35 :: u18 36 :: u18 37 :: u18 38 :: u18 39 :: u18 40 :: u18 41 :: u18 42 :: u18 43 :: u18 44 :: u18 45 :: u18 46 :: u18 47 :: u18 48 :: u18 49 :: u18 50 :: u18 51 :: u18 52 :: u18 53 :: u18 54 :: u18 55 :: u18 56 :: u18 57 :: u18 58 :: u18 59 :: u18 60 :: u18 61 :: u18 62 :: u18 63 :: u18 64 :: u18 65 :: u18 66 :: u18 67 :: List.replicate 2 un).toArray, []⟩) (by kernel_rfl) ?_
    refine wp_cond_true (by kernel_rfl) ?_
    refine wp_skip ?_
    refine then_at (F := ⟨(.string key :: .string nonce :: .string text :: un :: un :: un :: .string { data := #[] } :: iN .i64 0 :: pt q3 :: pt q10 :: u18 10 :: pt q15 :: iN .i64 k :: u18 13 :: .string key :: iN .i64 key.size :: .bool false :: .string nonce :: iN .i64 nonce.size :: .bool false :: .string text :: iN .i64 text.size :: .bool false :: .agg (bc boxL) :: .string key :: .agg (bc boxL) :: .agg (bc (flatW (kwS key))) :: iN .i64 k :: .string text :: iN .i64 text.size :: .bool true :: u18 31 :: u18 32 :: u18 33 :: u18 34 :: u18 35 :: u18 36 :: u18 37 :: u18 38 :: u18 39 :: u18 40 :: u18 41 :: u18 42 :: u18 43 :: u18 44 :: u18 45 :: u18 46 :: u18 47 :: u18 48 :: u18 49 :: u18 50 :: u18 51 :: u18 52 :: u18 53 :: u18 54 :: u18 55 :: u18 56 :: u18 57 :: u18 58 :: u18 59 :: u18 60 :: u18 61 :: u18 62 :: u18 63 :: u18 64 :: u18 65 :: u18 66 :: u18 67 :: List.replicate 2 un).toArray, []⟩) (by kernel_rfl) ?_
    refine wp_seq ?_
    refine wp_block ?_
    refine wp_seq ?_
    refine wp_seq ?_
    by_cases hc : k % 16 = 0
    · -- region 14
      refine wl_region ?_
      refine wl_val (iN .i64 k) (by kernel_rfl) (by kernel_rfl) ?_
      refine wl_val (iN .i64 (k % 16)) (by kernel_rfl) (run_rem (k := .i64) (a := k) (b := 16) (by kernel_rfl) (by kernel_rfl) (by omega)) ?_
      refine wl_val (.bool true) (by kernel_rfl) (run_eqi (k := .i64) (a := k % 16) (b := 0) (by kernel_rfl) (by kernel_rfl) true (decide_eq_true hc)) ?_
      refine wl_nil ?_
      refine then_at (F := ⟨(.string key :: .string nonce :: .string text :: un :: un :: un :: .string { data := #[] } :: iN .i64 0 :: pt q3 :: pt q10 :: u18 10 :: pt q15 :: iN .i64 k :: u18 13 :: .string key :: iN .i64 key.size :: .bool false :: .string nonce :: iN .i64 nonce.size :: .bool false :: .string text :: iN .i64 text.size :: .bool false :: .agg (bc boxL) :: .string key :: .agg (bc boxL) :: .agg (bc (flatW (kwS key))) :: iN .i64 k :: .string text :: iN .i64 text.size :: .bool true :: u18 31 :: u18 32 :: iN .i64 k :: iN .i64 (k % 16) :: .bool true :: u18 36 :: u18 37 :: u18 38 :: u18 39 :: u18 40 :: u18 41 :: u18 42 :: u18 43 :: u18 44 :: u18 45 :: u18 46 :: u18 47 :: u18 48 :: u18 49 :: u18 50 :: u18 51 :: u18 52 :: u18 53 :: u18 54 :: u18 55 :: u18 56 :: u18 57 :: u18 58 :: u18 59 :: u18 60 :: u18 61 :: u18 62 :: u18 63 :: u18 64 :: u18 65 :: u18 66 :: u18 67 :: List.replicate 2 un).toArray, []⟩) (by kernel_rfl) ?_
      refine wp_cond_true (by kernel_rfl) ?_
      refine wp_seq ?_
      -- region 15
      refine wl_region ?_
      refine wl_val (iN .i64 k) (by kernel_rfl) (by kernel_rfl) ?_
      refine wl_val (iN .i64 (k / 16)) (by kernel_rfl) (run_quo (k := .i64) (a := k) (b := 16) (by kernel_rfl) (by kernel_rfl) (by omega) (by simp only [top]; omega)) ?_
      refine wl_val (iN .i64 (k / 16)) (by kernel_rfl) (by kernel_rfl) ?_
      refine wl_nil ?_
      refine then_at (F := ⟨(.string key :: .string nonce :: .string text :: un :: un :: un :: .string { data := #[] } :: iN .i64 0 :: pt q3 :: pt q10 :: u18 10 :: pt q15 :: iN .i64 k :: iN .i64 (k / 16) :: .string key :: iN .i64 key.size :: .bool false :: .string nonce :: iN .i64 nonce.size :: .bool false :: .string text :: iN .i64 text.size :: .bool false :: .agg (bc boxL) :: .string key :: .agg (bc boxL) :: .agg (bc (flatW (kwS key))) :: iN .i64 k :: .string text :: iN .i64 text.size :: .bool true :: u18 31 :: u18 32 :: iN .i64 k :: iN .i64 (k % 16) :: .bool true :: iN .i64 k :: iN .i64 (k / 16) :: u18 38 :: u18 39 :: u18 40 :: u18 41 :: u18 42 :: u18 43 :: u18 44 :: u18 45 :: u18 46 :: u18 47 :: u18 48 :: u18 49 :: u18 50 :: u18 51 :: u18 52 :: u18 53 :: u18 54 :: u18 55 :: u18 56 :: u18 57 :: u18 58 :: u18 59 :: u18 60 :: u18 61 :: u18 62 :: u18 63 :: u18 64 :: u18 65 :: u18 66 :: u18 67 :: List.replicate 2 un).toArray, []⟩) (by kernel_rfl) ?_
      -- region 16
      obtain ⟨xs, hxs⟩ : ∃ x : ByteArray, x = nonce ++ ⟨(([UInt8.ofNat (k / 16 / 2 ^ 24), UInt8.ofNat (k / 16 / 2 ^ 16), UInt8.ofNat (k / 16 / 2 ^ 8), UInt8.ofNat (k / 16)]).take 4).toArray⟩ := ⟨_, rfl⟩
      have hX : xs = putS nonce (k / 16) := hxs.trans (put_four nonce (k / 16))
      have hXs : xs.size = 16 := by rw [hX, putS_size, hn]
      obtain ⟨xc, hxc, hxl⟩ : ∃ c : List UInt8, c = outQ (colS xs) 4 ∧ c.length = 16 := ⟨_, rfl, o16 _⟩
      obtain ⟨oc, hoc, hol⟩ : ∃ c : List UInt8, c = sb key nonce (k + 1) ∧ c.length = 16 := ⟨_, rfl, sb_len _ _ _⟩
      have he : sb key nonce (k + 1) = outQ (encQ (kwS key) (colS xs)) 4 := by rw [hX, col_put nonce hn (k / 16) (by omega)]; rfl
      clear hX
      refine wp_region_ghost (fun g : Nat → Nat => (⟨(.string key :: .string nonce :: .string text :: un :: un :: un :: .string { data := #[] } :: iN .i64 0 :: pt q3 :: pt q10 :: u18 10 :: pt q15 :: iN .i64 k :: iN .i64 (k / 16) :: .string key :: iN .i64 key.size :: .bool false :: .string nonce :: iN .i64 nonce.size :: .bool false :: .string text :: iN .i64 text.size :: .bool false :: .agg (bc boxL) :: .string key :: .agg (bc boxL) :: .agg (bc (flatW (kwS key))) :: iN .i64 k :: .string text :: iN .i64 text.size :: .bool true :: u18 31 :: u18 32 :: iN .i64 k :: iN .i64 (k % 16) :: .bool true :: iN .i64 k :: iN .i64 (k / 16) :: .agg (bc (flatW (kwS key))) :: .agg (bc boxL) :: .string nonce :: iN .i64 (k / 16) :: iN .i64 ((k / 16) / 2 ^ 24) :: by8 (UInt8.ofNat ((k / 16) / 2 ^ 24)) :: iN .i64 (k / 16) :: iN .i64 ((k / 16) / 2 ^ 16) :: by8 (UInt8.ofNat ((k / 16) / 2 ^ 16)) :: iN .i64 (k / 16) :: iN .i64 ((k / 16) / 2 ^ 8) :: by8 (UInt8.ofNat ((k / 16) / 2 ^ 8)) :: iN .i64 (k / 16) :: by8 (UInt8.ofNat (k / 16)) :: .slice (some ⟨g 14, 0, none⟩) 4 4 :: .string (⟨(([UInt8.ofNat (k / 16 / 2 ^ 24), UInt8.ofNat (k / 16 / 2 ^ 16), UInt8.ofNat (k / 16 / 2 ^ 8), UInt8.ofNat (k / 16)]).take 4).toArray⟩) :: .string xs :: .agg (bc xc) :: .agg (bc oc) :: u18 57 :: u18 58 :: u18 59 :: u18 60 :: u18 61 :: u18 62 :: u18 63 :: u18 64 :: u18 65 :: u18 66 :: u18 67 :: List.replicate 2 un).toArray, []⟩ : Act)) (GY (OW w [(q15, 37, bc (sb key nonce k)), (q10, 50, bc (flatW (kwS key))), (q3, 46, bc boxL)] (u18 10) k (rcL key nonce text k)) (fun _ => OW w [(q15, 37, bc oc), (q10, 50, bc (flatW (kwS key))), (q3, 46, bc boxL)] (u18 10) k (rcL key nonce text k)) (bc [UInt8.ofNat (k / 16 / 2 ^ 24), UInt8.ofNat (k / 16 / 2 ^ 16), UInt8.ofNat (k / 16 / 2 ^ 8), UInt8.ofNat (k / 16)]) (fun i => ([[], [], [], [], [3], [4], [], [6], [7], [], [9], [10], [], [12], [5, 8, 11, 13], [14], [2, 15], [16], [0, 1, 17], [18]] : List (List Nat)).getD i []) 14 19 1000) [.agg (bc (flatW (kwS key))), .agg (bc boxL), .string nonce, iN .i64 (k / 16), iN .i64 ((k / 16) / 2 ^ 24), by8 (UInt8.ofNat ((k / 16) / 2 ^ 24)), iN .i64 (k / 16), iN .i64 ((k / 16) / 2 ^ 16), by8 (UInt8.ofNat ((k / 16) / 2 ^ 16)), iN .i64 (k / 16), iN .i64 ((k / 16) / 2 ^ 8), by8 (UInt8.ofNat ((k / 16) / 2 ^ 8)), iN .i64 (k / 16), by8 (UInt8.ofNat (k / 16)), .slice (some ⟨0, 0, none⟩) 4 4, .string (⟨(([UInt8.ofNat (k / 16 / 2 ^ 24), UInt8.ofNat (k / 16 / 2 ^ 16), UInt8.ofNat (k / 16 / 2 ^ 8), UInt8.ofNat (k / 16)]).take 4).toArray⟩), .string xs, .agg (bc xc), .agg (bc oc), undef] (by kernel_rfl) (by kernel_rfl) (by kernel_rfl) (by kernel_rfl) (fun _ _ _ _ h => h) (fun d hd => GY.start hp.drew (hd 19 (by decide)) (hd 14 (by decide)) (Cl.start (n := 20) hd (by decide))) ?_ ?_
      · refine AllGhost.cons (gy_read (v := .agg (bc (flatW (kwS key)))) (by decide) (fun d C h => (C 18 (C 19 h 18 (by decide)) 0 (by decide))) (by kernel_rfl) (fun _ => by kernel_rfl) (fun _ => by kernel_rfl) (fun _ w' h' => by have hB : Blk w' q10 50 (bc (flatW (kwS key))) := h'.held.get 1 rfl; exact run_load_blk (by kernel_rfl) hB Try.underlying50 rfl (info50 (flatW (kwS key)) (flatW_len key)))) ?_
        refine AllGhost.cons (gy_read (v := .agg (bc boxL)) (by decide) (fun d C h => (C 18 (C 19 h 18 (by decide)) 1 (by decide))) (by kernel_rfl) (fun _ => by kernel_rfl) (fun _ => by kernel_rfl) (fun _ w' h' => by have hB : Blk w' q3 46 (bc boxL) := h'.held.get 2 rfl; exact run_load_blk (by kernel_rfl) hB Try.underlying46 rfl (info46 boxL boxL_len))) ?_
        refine AllGhost.cons (gy_plain (v := fun _ => .string nonce) (by decide) (by kernel_rfl) (fun _ => by kernel_rfl) (fun _ => by kernel_rfl) (fun _ _ => (by kernel_rfl))) ?_
        refine AllGhost.cons (gy_plain (v := fun _ => iN .i64 (k / 16)) (by decide) (by kernel_rfl) (fun _ => by kernel_rfl) (fun _ => by kernel_rfl) (fun _ _ => (by kernel_rfl))) ?_
        refine AllGhost.cons (gy_plain (v := fun _ => iN .i64 ((k / 16) / 2 ^ 24)) (by decide) (by kernel_rfl) (fun _ => by kernel_rfl) (fun _ => by kernel_rfl) (fun _ _ => (run_shr (k2 := .u64) (k := .i64) (a := k / 16) (b := 24) (by kernel_rfl) (by kernel_rfl) (by decide)))) ?_
        refine AllGhost.cons (gy_plain (v := fun _ => by8 (UInt8.ofNat ((k / 16) / 2 ^ 24))) (by decide) (by kernel_rfl) (fun _ => by kernel_rfl) (fun _ => by kernel_rfl) (fun _ _ => (run_lown (a := (k / 16) / 2 ^ 24) (by kernel_rfl) Try.underlying3 Try.underlying5))) ?_
        refine AllGhost.cons (gy_plain (v := fun _ => iN .i64 (k / 16)) (by decide) (by kernel_rfl) (fun _ => by kernel_rfl) (fun _ => by kernel_rfl) (fun _ _ => (by kernel_rfl))) ?_
        refine AllGhost.cons (gy_plain (v := fun _ => iN .i64 ((k / 16) / 2 ^ 16)) (by decide) (by kernel_rfl) (fun _ => by kernel_rfl) (fun _ => by kernel_rfl) (fun _ _ => (run_shr (k2 := .u64) (k := .i64) (a := k / 16) (b := 16) (by kernel_rfl) (by kernel_rfl) (by decide)))) ?_
        refine AllGhost.cons (gy_plain (v := fun _ => by8 (UInt8.ofNat ((k / 16) / 2 ^ 16))) (by decide) (by kernel_rfl) (fun _ => by kernel_rfl) (fun _ => by kernel_rfl) (fun _ _ => (run_lown (a := (k / 16) / 2 ^ 16) (by kernel_rfl) Try.underlying3 Try.underlying5))) ?_
        refine AllGhost.cons (gy_plain (v := fun _ => iN .i64 (k / 16)) (by decide) (by kernel_rfl) (fun _ => by kernel_rfl) (fun _ => by kernel_rfl) (fun _ _ => (by kernel_rfl))) ?_
        refine AllGhost.cons (gy_plain (v := fun _ => iN .i64 ((k / 16) / 2 ^ 8)) (by decide) (by kernel_rfl) (fun _ => by kernel_rfl) (fun _ => by kernel_rfl) (fun _ _ => (run_shr (k2 := .u64) (k := .i64) (a := k / 16) (b := 8) (by kernel_rfl) (by kernel_rfl) (by decide)))) ?_
        refine AllGhost.cons (gy_plain (v := fun _ => by8 (UInt8.ofNat ((k / 16) / 2 ^ 8))) (by decide) (by kernel_rfl) (fun _ => by kernel_rfl) (fun _ => by kernel_rfl) (fun _ _ => (run_lown (a := (k / 16) / 2 ^ 8) (by kernel_rfl) Try.underlying3 Try.underlying5))) ?_
        refine AllGhost.cons (gy_plain (v := fun _ => iN .i64 (k / 16)) (by decide) (by kernel_rfl) (fun _ => by kernel_rfl) (fun _ => by kernel_rfl) (fun _ _ => (by kernel_rfl))) ?_
        refine AllGhost.cons (gy_plain (v := fun _ => by8 (UInt8.ofNat (k / 16))) (by decide) (by kernel_rfl) (fun _ => by kernel_rfl) (fun _ => by kernel_rfl) (fun _ _ => (run_lown (a := k / 16) (by kernel_rfl) Try.underlying3 Try.underlying5))) ?_
        refine AllGhost.cons (gy_make (v := fun m => .slice (some ⟨m, 0, none⟩) 4 4) (fun _ h => h.made _) (by decide) (fun d C h => (C 15 (C 16 (C 17 (C 18 (C 19 h 18 (by decide)) 17 (by decide)) 16 (by decide)) 15 (by decide)) 14 (by decide))) (by kernel_rfl) (fun _ => by kernel_rfl) (fun _ _ => by kernel_rfl) (fun _ _ => run_build4 (a := UInt8.ofNat (k / 16 / 2 ^ 24)) (b := UInt8.ofNat (k / 16 / 2 ^ 16)) (c := UInt8.ofNat (k / 16 / 2 ^ 8)) (d := UInt8.ofNat (k / 16)) (by kernel_rfl) (by kernel_rfl) (by kernel_rfl) (by kernel_rfl))) ?_
        refine AllGhost.cons (gy_new (v := .string (⟨(([UInt8.ofNat (k / 16 / 2 ^ 24), UInt8.ofNat (k / 16 / 2 ^ 16), UInt8.ofNat (k / 16 / 2 ^ 8), UInt8.ofNat (k / 16)]).take 4).toArray⟩)) (by decide) (fun d C h => (C 16 (C 17 (C 18 (C 19 h 18 (by decide)) 17 (by decide)) 16 (by decide)) 15 (by decide))) (by decide) (by kernel_rfl) (fun _ => by kernel_rfl) (fun _ => by kernel_rfl) (fun g _ hb => run_textg (q := g 14) (m := 4) (c := 4) (l := [UInt8.ofNat (k / 16 / 2 ^ 24), UInt8.ofNat (k / 16 / 2 ^ 16), UInt8.ofNat (k / 16 / 2 ^ 8), UInt8.ofNat (k / 16)]) (by kernel_rfl) hb (Nat.le_refl 4))) ?_
        refine AllGhost.cons (gy_plain (v := fun _ => .string xs) (by decide) (by kernel_rfl) (fun _ => by kernel_rfl) (fun _ => by kernel_rfl) (fun _ _ => by rw [hxs]; exact run_cat (s := nonce) (t := ⟨(([UInt8.ofNat (k / 16 / 2 ^ 24), UInt8.ofNat (k / 16 / 2 ^ 16), UInt8.ofNat (k / 16 / 2 ^ 8), UInt8.ofNat (k / 16)]).take 4).toArray⟩) (by kernel_rfl) (by kernel_rfl) (by have e : (⟨(([UInt8.ofNat (k / 16 / 2 ^ 24), UInt8.ofNat (k / 16 / 2 ^ 16), UInt8.ofNat (k / 16 / 2 ^ 8), UInt8.ofNat (k / 16)]).take 4).toArray⟩ : ByteArray).size = 4 := rfl; rw [e, hn]; decide))) ?_
        refine AllGhost.cons (gy_call (v := .agg (bc xc)) (fun _ _ h hb => h.below hb) (by decide) (fun d C h => (C 18 (C 19 h 18 (by decide)) 17 (by decide))) (by kernel_rfl) (fun _ => by kernel_rfl) (fun _ => by kernel_rfl) enter24 #[.string xs] (fun _ => by kernel_rfl) (fun w' => (by rw [hxc]; exact of_col xs hXs w'))) ?_
        refine AllGhost.cons (gy_call (v := .agg (bc oc)) (fun _ _ h hb => h.below hb) (by decide) (fun d C h => (C 19 h 18 (by decide))) (by kernel_rfl) (fun _ => by kernel_rfl) (fun _ => by kernel_rfl) enter22 #[.agg (bc (flatW (kwS key))), .agg (bc boxL), .agg (bc xc)] (fun _ => by kernel_rfl) (fun w' => (by rw [hoc, he, hxc]; exact rencipher_any (kwS key) (kwS_len key) (colS xs) w'))) ?_
        refine AllGhost.cons (gy_skip (W := fun _ w => w.setCells q15 0 (bc oc).toList) (by decide) (fun d C hm => (C 15 (C 16 (C 17 (C 18 (hm 18 (by decide)) 17 (by decide)) 16 (by decide)) 15 (by decide)) 14 (by decide))) (by kernel_rfl) (fun _ => by kernel_rfl) (fun _ => by kernel_rfl) (fun _ w' h' _ => by have hB : Blk w' q15 37 (bc (sb key nonce k)) := h'.held.get 0 rfl; exact ⟨run_store_blk (by kernel_rfl) (by kernel_rfl) hB (by rw [bc_size, bc_size, hol, sb_len]) (info37 oc hol) (one_bc oc), h'.fill 0 rfl (by rw [bc_size, bc_size, hol, sb_len]) (by decide)⟩)) ?_
        exact AllGhost.nil
      intro g w21 g22
      have o23 : OW w [(q15, 37, bc (sb key nonce (k + 1))), (q10, 50, bc (flatW (kwS key))), (q3, 46, bc boxL)] (u18 10) k (rcL key nonce text k) w21 := by have h1 := g22.after rfl; rw [hoc] at h1; exact h1
      clear g22 hoc he hol
      generalize g 14 = m25
      clear g
      have h24 := o23.held
      refine then_at (F := ⟨(.string key :: .string nonce :: .string text :: un :: un :: un :: .string { data := #[] } :: iN .i64 0 :: pt q3 :: pt q10 :: u18 10 :: pt q15 :: iN .i64 k :: iN .i64 (k / 16) :: .string key :: iN .i64 key.size :: .bool false :: .string nonce :: iN .i64 nonce.size :: .bool false :: .string text :: iN .i64 text.size :: .bool false :: .agg (bc boxL) :: .string key :: .agg (bc boxL) :: .agg (bc (flatW (kwS key))) :: iN .i64 k :: .string text :: iN .i64 text.size :: .bool true :: u18 31 :: u18 32 :: iN .i64 k :: iN .i64 (k % 16) :: .bool true :: iN .i64 k :: iN .i64 (k / 16) :: .agg (bc (flatW (kwS key))) :: .agg (bc boxL) :: .string nonce :: iN .i64 (k / 16) :: iN .i64 ((k / 16) / 2 ^ 24) :: by8 (UInt8.ofNat ((k / 16) / 2 ^ 24)) :: iN .i64 (k / 16) :: iN .i64 ((k / 16) / 2 ^ 16) :: by8 (UInt8.ofNat ((k / 16) / 2 ^ 16)) :: iN .i64 (k / 16) :: iN .i64 ((k / 16) / 2 ^ 8) :: by8 (UInt8.ofNat ((k / 16) / 2 ^ 8)) :: iN .i64 (k / 16) :: by8 (UInt8.ofNat (k / 16)) :: .slice (some ⟨m25, 0, none⟩) 4 4 :: .string (⟨(([UInt8.ofNat (k / 16 / 2 ^ 24), UInt8.ofNat (k / 16 / 2 ^ 16), UInt8.ofNat (k / 16 / 2 ^ 8), UInt8.ofNat (k / 16)]).take 4).toArray⟩) :: .string xs :: .agg (bc xc) :: .agg (bc oc) :: u18 57 :: u18 58 :: u18 59 :: u18 60 :: u18 61 :: u18 62 :: u18 63 :: u18 64 :: u18 65 :: u18 66 :: u18 67 :: List.replicate 2 un).toArray, []⟩) (by kernel_rfl) ?_
      -- region 17
      have hT : ∀ x ∈ ([(q15, 37, bc (sb key nonce (k + 1))), (q10, 50, bc (flatW (kwS key))), (q3, 46, bc boxL)] : List (Nat × TypeId × Array Value)), x.2.1 ≠ 5 := ne5 (show (37 : Nat) ≠ 5 by decide) (show (50 : Nat) ≠ 5 by decide) (show (46 : Nat) ≠ 5 by decide)
      refine wp_region_old [0] (fun g : Nat → Nat => (⟨(.string key :: .string nonce :: .string text :: un :: un :: un :: .string { data := #[] } :: iN .i64 0 :: pt q3 :: pt q10 :: slN (k + 1) (g 11) :: pt q15 :: iN .i64 k :: iN .i64 (k / 16) :: .string key :: iN .i64 key.size :: .bool false :: .string nonce :: iN .i64 nonce.size :: .bool false :: .string text :: iN .i64 text.size :: .bool false :: .agg (bc boxL) :: .string key :: .agg (bc boxL) :: .agg (bc (flatW (kwS key))) :: iN .i64 k :: .string text :: iN .i64 text.size :: .bool true :: u18 31 :: u18 32 :: iN .i64 k :: iN .i64 (k % 16) :: .bool true :: iN .i64 k :: iN .i64 (k / 16) :: .agg (bc (flatW (kwS key))) :: .agg (bc boxL) :: .string nonce :: iN .i64 (k / 16) :: iN .i64 ((k / 16) / 2 ^ 24) :: by8 (UInt8.ofNat ((k / 16) / 2 ^ 24)) :: iN .i64 (k / 16) :: iN .i64 ((k / 16) / 2 ^ 16) :: by8 (UInt8.ofNat ((k / 16) / 2 ^ 16)) :: iN .i64 (k / 16) :: iN .i64 ((k / 16) / 2 ^ 8) :: by8 (UInt8.ofNat ((k / 16) / 2 ^ 8)) :: iN .i64 (k / 16) :: by8 (UInt8.ofNat (k / 16)) :: .slice (some ⟨m25, 0, none⟩) 4 4 :: .string (⟨(([UInt8.ofNat (k / 16 / 2 ^ 24), UInt8.ofNat (k / 16 / 2 ^ 16), UInt8.ofNat (k / 16 / 2 ^ 8), UInt8.ofNat (k / 16)]).take 4).toArray⟩) :: .string xs :: .agg (bc xc) :: .agg (bc oc) :: u18 10 :: .string text :: iN .i64 k :: by8 ((bl text).getD (k) 0) :: iN .i64 k :: iN .i64 (k % 16) :: .pointer (some ⟨q15, k % 16, none⟩) :: by8 ((sb key nonce (k + 1)).getD (k % 16) 0) :: by8 (((bl text).getD (k) 0) ^^^ ((sb key nonce (k + 1)).getD (k % 16) 0)) :: .slice (some ⟨g 9, 0, none⟩) 1 1 :: slN (k + 1) (g 10) :: List.replicate 2 un).toArray, []⟩ : Act)) (GY (OW w [(q15, 37, bc (sb key nonce (k + 1))), (q10, 50, bc (flatW (kwS key))), (q3, 46, bc boxL)] (u18 10) k (rcL key nonce text k)) (fun g => OW w [(q15, 37, bc (sb key nonce (k + 1))), (q10, 50, bc (flatW (kwS key))), (q3, 46, bc boxL)] (slN (k + 1) (g 10)) (k + 1) (rcL key nonce text (k + 1))) (bc [(bl text).getD k 0 ^^^ (sb key nonce (k + 1)).getD (k % 16) 0]) (fun i => ([[], [], [], [1, 2], [], [4], [5], [6], [3, 7], [8], [0, 9], [10]] : List (List Nat)).getD i []) 9 10 11) [u18 10, .string text, iN .i64 k, by8 ((bl text).getD (k) 0), iN .i64 k, iN .i64 (k % 16), .pointer (some ⟨q15, k % 16, none⟩), by8 ((sb key nonce (k + 1)).getD (k % 16) 0), by8 (((bl text).getD (k) 0) ^^^ ((sb key nonce (k + 1)).getD (k % 16) 0)), .slice (some ⟨0, 0, none⟩) 1 1, slN (k + 1) 0, slN (k + 1) 0] (by kernel_rfl) (by kernel_rfl) (by kernel_rfl) (by kernel_rfl) (fun _ _ _ _ h => h) (fun d hd => GY.start o23.drew (hd 10 (by decide)) (hd 9 (by decide)) (Cl.start (n := 12) hd (by decide))) ?_ ?_
      · refine AllGhost2.was (by kernel_rfl) (fun _ => by kernel_rfl) (fun _ _ _ h => h.keep (by decide) (fun m hm => by simp at hm)) ?_
        refine AllGhost2.cons (by kernel_rfl) (gy_plain (v := fun _ => .string text) (by decide) (by kernel_rfl) (fun _ => by kernel_rfl) (fun _ => by kernel_rfl) (fun _ _ => (by kernel_rfl))) ?_
        refine AllGhost2.cons (by kernel_rfl) (gy_plain (v := fun _ => iN .i64 k) (by decide) (by kernel_rfl) (fun _ => by kernel_rfl) (fun _ => by kernel_rfl) (fun _ _ => (by kernel_rfl))) ?_
        refine AllGhost2.cons (by kernel_rfl) (gy_plain (v := fun _ => by8 ((bl text).getD (k) 0)) (by decide) (by kernel_rfl) (fun _ => by kernel_rfl) (fun _ => by kernel_rfl) (fun _ _ => (run_idx (s := text) (k := .i64) (a := k) (by kernel_rfl) (by kernel_rfl) (by omega)))) ?_
        refine AllGhost2.cons (by kernel_rfl) (gy_plain (v := fun _ => iN .i64 k) (by decide) (by kernel_rfl) (fun _ => by kernel_rfl) (fun _ => by kernel_rfl) (fun _ _ => (by kernel_rfl))) ?_
        refine AllGhost2.cons (by kernel_rfl) (gy_plain (v := fun _ => iN .i64 (k % 16)) (by decide) (by kernel_rfl) (fun _ => by kernel_rfl) (fun _ => by kernel_rfl) (fun _ _ => (run_rem (k := .i64) (a := k) (b := 16) (by kernel_rfl) (by kernel_rfl) (by omega)))) ?_
        refine AllGhost2.cons (by kernel_rfl) (gy_plain (v := fun _ => .pointer (some ⟨q15, k % 16, none⟩)) (by decide) (by kernel_rfl) (fun _ => by kernel_rfl) (fun _ => by kernel_rfl) (fun _ _ => (addr_eq (by omega) (run_addr_k (k := .i64) (q := q15) (o := 0) (a := k % 16) (m := 1) Try.underlying37 (fun w => Try.sizeOf5 w) (by kernel_rfl) (by kernel_rfl) (by omega))))) ?_
        refine AllGhost2.cons (by kernel_rfl) (gy_read (v := by8 ((sb key nonce (k + 1)).getD (k % 16) 0)) (by decide) (fun d C h => (C 8 (C 9 (C 10 h 9 (by decide)) 8 (by decide)) 7 (by decide))) (by kernel_rfl) (fun _ => by kernel_rfl) (fun _ => by kernel_rfl) (fun _ w' h' => by have hB : Blk w' q15 37 (bc (sb key nonce (k + 1))) := h'.held.get 0 rfl; exact run_load1 (fun w => Try.isAgg5 w) (by kernel_rfl) ((hB.cell (k % 16)).trans (bc_get (sb key nonce (k + 1)) (k % 16) (by rw [(sb_len key nonce (k + 1))]; omega))))) ?_
        refine AllGhost2.cons (by kernel_rfl) (gy_plain (v := fun _ => by8 (((bl text).getD (k) 0) ^^^ ((sb key nonce (k + 1)).getD (k % 16) 0))) (by decide) (by kernel_rfl) (fun _ => by kernel_rfl) (fun _ => by kernel_rfl) (fun _ _ => (run_xorb (a := (bl text).getD (k) 0) (b := (sb key nonce (k + 1)).getD (k % 16) 0) (by kernel_rfl) (by kernel_rfl)))) ?_
        refine AllGhost2.cons (by kernel_rfl) (gy_make (v := fun m => .slice (some ⟨m, 0, none⟩) 1 1) (fun _ h => h.made _) (by decide) (fun d C h => (C 10 h 9 (by decide))) (by kernel_rfl) (fun _ => by kernel_rfl) (fun _ _ => by kernel_rfl) (fun _ _ => run_build1 (u := (bl text).getD k 0 ^^^ (sb key nonce (k + 1)).getD (k % 16) 0) (by kernel_rfl))) ?_
        refine AllGhost2.cons (by kernel_rfl) (gy_act (v := slN (k + 1)) (by decide) (fun d C h => C 11 h 10 (by decide)) (fun d C hm => hm 9 (by decide)) (by kernel_rfl) (fun _ => by kernel_rfl) (fun _ _ => by kernel_rfl) (fun g w' h' hb => (by obtain ⟨m, W, h1, h2⟩ := run_app_own (q := g 9) h' hT hb (by omega) (by kernel_rfl) (by kernel_rfl); exact ⟨m, W, h1, by show OW _ _ (slN (k + 1) (up g 10 m 10)) _ _ _; rw [up_at]; exact h2⟩))) ?_
        refine AllGhost2.cons (by kernel_rfl) (gy_copy (v := slN (k + 1)) (by decide) (fun g m w' h' => by show OW _ _ (slN (k + 1) (up g 11 m 10)) _ _ _; rw [up_ne _ _ (by decide)]; exact h') (by kernel_rfl) (fun _ => by kernel_rfl) (fun _ _ => by kernel_rfl) (fun _ _ => by kernel_rfl)) ?_
        exact AllGhost2.nil
      intro g w26 g27
      have o28 : OW w [(q15, 37, bc (sb key nonce (k + 1))), (q10, 50, bc (flatW (kwS key))), (q3, 46, bc boxL)] (slN (k + 1) (g 11)) (k + 1) (rcL key nonce text (k + 1)) w26 := by rw [g27.same rfl]; exact g27.after rfl
      clear g27 hT
      generalize g 9 = m30 at *
      generalize g 10 = m31 at *
      generalize g 11 = m32 at *
      clear g
      have h29 := o28.held
      refine block_normal ?_
      refine then_at (F := ⟨(.string key :: .string nonce :: .string text :: un :: un :: un :: .string { data := #[] } :: iN .i64 0 :: pt q3 :: pt q10 :: slN (k + 1) (m32) :: pt q15 :: iN .i64 k :: iN .i64 (k / 16) :: .string key :: iN .i64 key.size :: .bool false :: .string nonce :: iN .i64 nonce.size :: .bool false :: .string text :: iN .i64 text.size :: .bool false :: .agg (bc boxL) :: .string key :: .agg (bc boxL) :: .agg (bc (flatW (kwS key))) :: iN .i64 k :: .string text :: iN .i64 text.size :: .bool true :: u18 31 :: u18 32 :: iN .i64 k :: iN .i64 (k % 16) :: .bool true :: iN .i64 k :: iN .i64 (k / 16) :: .agg (bc (flatW (kwS key))) :: .agg (bc boxL) :: .string nonce :: iN .i64 (k / 16) :: iN .i64 ((k / 16) / 2 ^ 24) :: by8 (UInt8.ofNat ((k / 16) / 2 ^ 24)) :: iN .i64 (k / 16) :: iN .i64 ((k / 16) / 2 ^ 16) :: by8 (UInt8.ofNat ((k / 16) / 2 ^ 16)) :: iN .i64 (k / 16) :: iN .i64 ((k / 16) / 2 ^ 8) :: by8 (UInt8.ofNat ((k / 16) / 2 ^ 8)) :: iN .i64 (k / 16) :: by8 (UInt8.ofNat (k / 16)) :: .slice (some ⟨m25, 0, none⟩) 4 4 :: .string (⟨(([UInt8.ofNat (k / 16 / 2 ^ 24), UInt8.ofNat (k / 16 / 2 ^ 16), UInt8.ofNat (k / 16 / 2 ^ 8), UInt8.ofNat (k / 16)]).take 4).toArray⟩) :: .string xs :: .agg (bc xc) :: .agg (bc oc) :: u18 10 :: .string text :: iN .i64 k :: by8 ((bl text).getD (k) 0) :: iN .i64 k :: iN .i64 (k % 16) :: .pointer (some ⟨q15, k % 16, none⟩) :: by8 ((sb key nonce (k + 1)).getD (k % 16) 0) :: by8 (((bl text).getD (k) 0) ^^^ ((sb key nonce (k + 1)).getD (k % 16) 0)) :: .slice (some ⟨m30, 0, none⟩) 1 1 :: slN (k + 1) (m31) :: List.replicate 2 un).toArray, []⟩) (by kernel_rfl) ?_
      -- region 13
      refine wl_region ?_
      refine wl_val (iN .i64 k) (by kernel_rfl) (by kernel_rfl) ?_
      refine wl_val (iN .i64 (k + 1)) (by kernel_rfl) (run_add (k := .i64) (a := k) (b := 1) (by kernel_rfl) (by kernel_rfl) (by simp only [top]; omega)) ?_
      refine wl_val (iN .i64 (k + 1)) (by kernel_rfl) (by kernel_rfl) ?_
      refine wl_nil ?_
      exact then_I ⟨fun ii => (([(10, slN (k + 1) (m32)), (13, iN .i64 (k / 16)), (27, iN .i64 k), (28, .string text), (29, iN .i64 text.size), (30, .bool true), (31, iN .i64 k), (32, iN .i64 (k + 1)), (33, iN .i64 k), (34, iN .i64 (k % 16)), (35, .bool true), (36, iN .i64 k), (37, iN .i64 (k / 16)), (38, .agg (bc (flatW (kwS key)))), (39, .agg (bc boxL)), (40, .string nonce), (41, iN .i64 (k / 16)), (42, iN .i64 ((k / 16) / 2 ^ 24)), (43, by8 (UInt8.ofNat ((k / 16) / 2 ^ 24))), (44, iN .i64 (k / 16)), (45, iN .i64 ((k / 16) / 2 ^ 16)), (46, by8 (UInt8.ofNat ((k / 16) / 2 ^ 16))), (47, iN .i64 (k / 16)), (48, iN .i64 ((k / 16) / 2 ^ 8)), (49, by8 (UInt8.ofNat ((k / 16) / 2 ^ 8))), (50, iN .i64 (k / 16)), (51, by8 (UInt8.ofNat (k / 16))), (52, .slice (some ⟨m25, 0, none⟩) 4 4), (53, .string (⟨(([UInt8.ofNat (k / 16 / 2 ^ 24), UInt8.ofNat (k / 16 / 2 ^ 16), UInt8.ofNat (k / 16 / 2 ^ 8), UInt8.ofNat (k / 16)]).take 4).toArray⟩)), (54, .string xs), (55, .agg (bc xc)), (56, .agg (bc oc)), (57, u18 10), (58, .string text), (59, iN .i64 k), (60, by8 ((bl text).getD (k) 0)), (61, iN .i64 k), (62, iN .i64 (k % 16)), (63, .pointer (some ⟨q15, k % 16, none⟩)), (64, by8 ((sb key nonce (k + 1)).getD (k % 16) 0)), (65, by8 (((bl text).getD (k) 0) ^^^ ((sb key nonce (k + 1)).getD (k % 16) 0))), (66, .slice (some ⟨m30, 0, none⟩) 1 1), (67, slN (k + 1) (m31))] : List (Nat × Value)).find? (·.1 == ii)).elim undef (·.2), by kernel_rfl, h29, (by exact o28)⟩
    · -- region 14
      refine wl_region ?_
      refine wl_val (iN .i64 k) (by kernel_rfl) (by kernel_rfl) ?_
      refine wl_val (iN .i64 (k % 16)) (by kernel_rfl) (run_rem (k := .i64) (a := k) (b := 16) (by kernel_rfl) (by kernel_rfl) (by omega)) ?_
      refine wl_val (.bool false) (by kernel_rfl) (run_eqi (k := .i64) (a := k % 16) (b := 0) (by kernel_rfl) (by kernel_rfl) false (decide_eq_false hc)) ?_
      refine wl_nil ?_
      refine then_at (F := ⟨(.string key :: .string nonce :: .string text :: un :: un :: un :: .string { data := #[] } :: iN .i64 0 :: pt q3 :: pt q10 :: u18 10 :: pt q15 :: iN .i64 k :: u18 13 :: .string key :: iN .i64 key.size :: .bool false :: .string nonce :: iN .i64 nonce.size :: .bool false :: .string text :: iN .i64 text.size :: .bool false :: .agg (bc boxL) :: .string key :: .agg (bc boxL) :: .agg (bc (flatW (kwS key))) :: iN .i64 k :: .string text :: iN .i64 text.size :: .bool true :: u18 31 :: u18 32 :: iN .i64 k :: iN .i64 (k % 16) :: .bool false :: u18 36 :: u18 37 :: u18 38 :: u18 39 :: u18 40 :: u18 41 :: u18 42 :: u18 43 :: u18 44 :: u18 45 :: u18 46 :: u18 47 :: u18 48 :: u18 49 :: u18 50 :: u18 51 :: u18 52 :: u18 53 :: u18 54 :: u18 55 :: u18 56 :: u18 57 :: u18 58 :: u18 59 :: u18 60 :: u18 61 :: u18 62 :: u18 63 :: u18 64 :: u18 65 :: u18 66 :: u18 67 :: List.replicate 2 un).toArray, []⟩) (by kernel_rfl) ?_
      refine wp_cond_false (by kernel_rfl) ?_
      refine wp_skip ?_
      refine then_at (F := ⟨(.string key :: .string nonce :: .string text :: un :: un :: un :: .string { data := #[] } :: iN .i64 0 :: pt q3 :: pt q10 :: u18 10 :: pt q15 :: iN .i64 k :: u18 13 :: .string key :: iN .i64 key.size :: .bool false :: .string nonce :: iN .i64 nonce.size :: .bool false :: .string text :: iN .i64 text.size :: .bool false :: .agg (bc boxL) :: .string key :: .agg (bc boxL) :: .agg (bc (flatW (kwS key))) :: iN .i64 k :: .string text :: iN .i64 text.size :: .bool true :: u18 31 :: u18 32 :: iN .i64 k :: iN .i64 (k % 16) :: .bool false :: u18 36 :: u18 37 :: u18 38 :: u18 39 :: u18 40 :: u18 41 :: u18 42 :: u18 43 :: u18 44 :: u18 45 :: u18 46 :: u18 47 :: u18 48 :: u18 49 :: u18 50 :: u18 51 :: u18 52 :: u18 53 :: u18 54 :: u18 55 :: u18 56 :: u18 57 :: u18 58 :: u18 59 :: u18 60 :: u18 61 :: u18 62 :: u18 63 :: u18 64 :: u18 65 :: u18 66 :: u18 67 :: List.replicate 2 un).toArray, []⟩) (by kernel_rfl) ?_
      -- region 17
      have o33 : OW w [(q15, 37, bc (sb key nonce (k + 1))), (q10, 50, bc (flatW (kwS key))), (q3, 46, bc boxL)] (u18 10) k (rcL key nonce text k) w19 := by have h1 := hp; rw [sb_same key nonce k hc] at h1; exact h1
      have h34 := o33.held
      have hT : ∀ x ∈ ([(q15, 37, bc (sb key nonce (k + 1))), (q10, 50, bc (flatW (kwS key))), (q3, 46, bc boxL)] : List (Nat × TypeId × Array Value)), x.2.1 ≠ 5 := ne5 (show (37 : Nat) ≠ 5 by decide) (show (50 : Nat) ≠ 5 by decide) (show (46 : Nat) ≠ 5 by decide)
      refine wp_region_old [0] (fun g : Nat → Nat => (⟨(.string key :: .string nonce :: .string text :: un :: un :: un :: .string { data := #[] } :: iN .i64 0 :: pt q3 :: pt q10 :: slN (k + 1) (g 11) :: pt q15 :: iN .i64 k :: u18 13 :: .string key :: iN .i64 key.size :: .bool false :: .string nonce :: iN .i64 nonce.size :: .bool false :: .string text :: iN .i64 text.size :: .bool false :: .agg (bc boxL) :: .string key :: .agg (bc boxL) :: .agg (bc (flatW (kwS key))) :: iN .i64 k :: .string text :: iN .i64 text.size :: .bool true :: u18 31 :: u18 32 :: iN .i64 k :: iN .i64 (k % 16) :: .bool false :: u18 36 :: u18 37 :: u18 38 :: u18 39 :: u18 40 :: u18 41 :: u18 42 :: u18 43 :: u18 44 :: u18 45 :: u18 46 :: u18 47 :: u18 48 :: u18 49 :: u18 50 :: u18 51 :: u18 52 :: u18 53 :: u18 54 :: u18 55 :: u18 56 :: u18 10 :: .string text :: iN .i64 k :: by8 ((bl text).getD (k) 0) :: iN .i64 k :: iN .i64 (k % 16) :: .pointer (some ⟨q15, k % 16, none⟩) :: by8 ((sb key nonce (k + 1)).getD (k % 16) 0) :: by8 (((bl text).getD (k) 0) ^^^ ((sb key nonce (k + 1)).getD (k % 16) 0)) :: .slice (some ⟨g 9, 0, none⟩) 1 1 :: slN (k + 1) (g 10) :: List.replicate 2 un).toArray, []⟩ : Act)) (GY (OW w [(q15, 37, bc (sb key nonce (k + 1))), (q10, 50, bc (flatW (kwS key))), (q3, 46, bc boxL)] (u18 10) k (rcL key nonce text k)) (fun g => OW w [(q15, 37, bc (sb key nonce (k + 1))), (q10, 50, bc (flatW (kwS key))), (q3, 46, bc boxL)] (slN (k + 1) (g 10)) (k + 1) (rcL key nonce text (k + 1))) (bc [(bl text).getD k 0 ^^^ (sb key nonce (k + 1)).getD (k % 16) 0]) (fun i => ([[], [], [], [1, 2], [], [4], [5], [6], [3, 7], [8], [0, 9], [10]] : List (List Nat)).getD i []) 9 10 11) [u18 10, .string text, iN .i64 k, by8 ((bl text).getD (k) 0), iN .i64 k, iN .i64 (k % 16), .pointer (some ⟨q15, k % 16, none⟩), by8 ((sb key nonce (k + 1)).getD (k % 16) 0), by8 (((bl text).getD (k) 0) ^^^ ((sb key nonce (k + 1)).getD (k % 16) 0)), .slice (some ⟨0, 0, none⟩) 1 1, slN (k + 1) 0, slN (k + 1) 0] (by kernel_rfl) (by kernel_rfl) (by kernel_rfl) (by kernel_rfl) (fun _ _ _ _ h => h) (fun d hd => GY.start o33.drew (hd 10 (by decide)) (hd 9 (by decide)) (Cl.start (n := 12) hd (by decide))) ?_ ?_
      · refine AllGhost2.was (by kernel_rfl) (fun _ => by kernel_rfl) (fun _ _ _ h => h.keep (by decide) (fun m hm => by simp at hm)) ?_
        refine AllGhost2.cons (by kernel_rfl) (gy_plain (v := fun _ => .string text) (by decide) (by kernel_rfl) (fun _ => by kernel_rfl) (fun _ => by kernel_rfl) (fun _ _ => (by kernel_rfl))) ?_
        refine AllGhost2.cons (by kernel_rfl) (gy_plain (v := fun _ => iN .i64 k) (by decide) (by kernel_rfl) (fun _ => by kernel_rfl) (fun _ => by kernel_rfl) (fun _ _ => (by kernel_rfl))) ?_
        refine AllGhost2.cons (by kernel_rfl) (gy_plain (v := fun _ => by8 ((bl text).getD (k) 0)) (by decide) (by kernel_rfl) (fun _ => by kernel_rfl) (fun _ => by kernel_rfl) (fun _ _ => (run_idx (s := text) (k := .i64) (a := k) (by kernel_rfl) (by kernel_rfl) (by omega)))) ?_
        refine AllGhost2.cons (by kernel_rfl) (gy_plain (v := fun _ => iN .i64 k) (by decide) (by kernel_rfl) (fun _ => by kernel_rfl) (fun _ => by kernel_rfl) (fun _ _ => (by kernel_rfl))) ?_
        refine AllGhost2.cons (by kernel_rfl) (gy_plain (v := fun _ => iN .i64 (k % 16)) (by decide) (by kernel_rfl) (fun _ => by kernel_rfl) (fun _ => by kernel_rfl) (fun _ _ => (run_rem (k := .i64) (a := k) (b := 16) (by kernel_rfl) (by kernel_rfl) (by omega)))) ?_
        refine AllGhost2.cons (by kernel_rfl) (gy_plain (v := fun _ => .pointer (some ⟨q15, k % 16, none⟩)) (by decide) (by kernel_rfl) (fun _ => by kernel_rfl) (fun _ => by kernel_rfl) (fun _ _ => (addr_eq (by omega) (run_addr_k (k := .i64) (q := q15) (o := 0) (a := k % 16) (m := 1) Try.underlying37 (fun w => Try.sizeOf5 w) (by kernel_rfl) (by kernel_rfl) (by omega))))) ?_
        refine AllGhost2.cons (by kernel_rfl) (gy_read (v := by8 ((sb key nonce (k + 1)).getD (k % 16) 0)) (by decide) (fun d C h => (C 8 (C 9 (C 10 h 9 (by decide)) 8 (by decide)) 7 (by decide))) (by kernel_rfl) (fun _ => by kernel_rfl) (fun _ => by kernel_rfl) (fun _ w' h' => by have hB : Blk w' q15 37 (bc (sb key nonce (k + 1))) := h'.held.get 0 rfl; exact run_load1 (fun w => Try.isAgg5 w) (by kernel_rfl) ((hB.cell (k % 16)).trans (bc_get (sb key nonce (k + 1)) (k % 16) (by rw [(sb_len key nonce (k + 1))]; omega))))) ?_
        refine AllGhost2.cons (by kernel_rfl) (gy_plain (v := fun _ => by8 (((bl text).getD (k) 0) ^^^ ((sb key nonce (k + 1)).getD (k % 16) 0))) (by decide) (by kernel_rfl) (fun _ => by kernel_rfl) (fun _ => by kernel_rfl) (fun _ _ => (run_xorb (a := (bl text).getD (k) 0) (b := (sb key nonce (k + 1)).getD (k % 16) 0) (by kernel_rfl) (by kernel_rfl)))) ?_
        refine AllGhost2.cons (by kernel_rfl) (gy_make (v := fun m => .slice (some ⟨m, 0, none⟩) 1 1) (fun _ h => h.made _) (by decide) (fun d C h => (C 10 h 9 (by decide))) (by kernel_rfl) (fun _ => by kernel_rfl) (fun _ _ => by kernel_rfl) (fun _ _ => run_build1 (u := (bl text).getD k 0 ^^^ (sb key nonce (k + 1)).getD (k % 16) 0) (by kernel_rfl))) ?_
        refine AllGhost2.cons (by kernel_rfl) (gy_act (v := slN (k + 1)) (by decide) (fun d C h => C 11 h 10 (by decide)) (fun d C hm => hm 9 (by decide)) (by kernel_rfl) (fun _ => by kernel_rfl) (fun _ _ => by kernel_rfl) (fun g w' h' hb => (by obtain ⟨m, W, h1, h2⟩ := run_app_own (q := g 9) h' hT hb (by omega) (by kernel_rfl) (by kernel_rfl); exact ⟨m, W, h1, by show OW _ _ (slN (k + 1) (up g 10 m 10)) _ _ _; rw [up_at]; exact h2⟩))) ?_
        refine AllGhost2.cons (by kernel_rfl) (gy_copy (v := slN (k + 1)) (by decide) (fun g m w' h' => by show OW _ _ (slN (k + 1) (up g 11 m 10)) _ _ _; rw [up_ne _ _ (by decide)]; exact h') (by kernel_rfl) (fun _ => by kernel_rfl) (fun _ _ => by kernel_rfl) (fun _ _ => by kernel_rfl)) ?_
        exact AllGhost2.nil
      intro g w35 g36
      have o37 : OW w [(q15, 37, bc (sb key nonce (k + 1))), (q10, 50, bc (flatW (kwS key))), (q3, 46, bc boxL)] (slN (k + 1) (g 11)) (k + 1) (rcL key nonce text (k + 1)) w35 := by rw [g36.same rfl]; exact g36.after rfl
      clear g36 hT
      generalize g 9 = m39 at *
      generalize g 10 = m40 at *
      generalize g 11 = m41 at *
      clear g
      have h38 := o37.held
      refine block_normal ?_
      refine then_at (F := ⟨(.string key :: .string nonce :: .string text :: un :: un :: un :: .string { data := #[] } :: iN .i64 0 :: pt q3 :: pt q10 :: slN (k + 1) (m41) :: pt q15 :: iN .i64 k :: u18 13 :: .string key :: iN .i64 key.size :: .bool false :: .string nonce :: iN .i64 nonce.size :: .bool false :: .string text :: iN .i64 text.size :: .bool false :: .agg (bc boxL) :: .string key :: .agg (bc boxL) :: .agg (bc (flatW (kwS key))) :: iN .i64 k :: .string text :: iN .i64 text.size :: .bool true :: u18 31 :: u18 32 :: iN .i64 k :: iN .i64 (k % 16) :: .bool false :: u18 36 :: u18 37 :: u18 38 :: u18 39 :: u18 40 :: u18 41 :: u18 42 :: u18 43 :: u18 44 :: u18 45 :: u18 46 :: u18 47 :: u18 48 :: u18 49 :: u18 50 :: u18 51 :: u18 52 :: u18 53 :: u18 54 :: u18 55 :: u18 56 :: u18 10 :: .string text :: iN .i64 k :: by8 ((bl text).getD (k) 0) :: iN .i64 k :: iN .i64 (k % 16) :: .pointer (some ⟨q15, k % 16, none⟩) :: by8 ((sb key nonce (k + 1)).getD (k % 16) 0) :: by8 (((bl text).getD (k) 0) ^^^ ((sb key nonce (k + 1)).getD (k % 16) 0)) :: .slice (some ⟨m39, 0, none⟩) 1 1 :: slN (k + 1) (m40) :: List.replicate 2 un).toArray, []⟩) (by kernel_rfl) ?_
      -- region 13
      refine wl_region ?_
      refine wl_val (iN .i64 k) (by kernel_rfl) (by kernel_rfl) ?_
      refine wl_val (iN .i64 (k + 1)) (by kernel_rfl) (run_add (k := .i64) (a := k) (b := 1) (by kernel_rfl) (by kernel_rfl) (by simp only [top]; omega)) ?_
      refine wl_val (iN .i64 (k + 1)) (by kernel_rfl) (by kernel_rfl) ?_
      refine wl_nil ?_
      exact then_I ⟨fun ii => (([(10, slN (k + 1) (m41)), (13, u18 13), (27, iN .i64 k), (28, .string text), (29, iN .i64 text.size), (30, .bool true), (31, iN .i64 k), (32, iN .i64 (k + 1)), (33, iN .i64 k), (34, iN .i64 (k % 16)), (35, .bool false), (36, u18 36), (37, u18 37), (38, u18 38), (39, u18 39), (40, u18 40), (41, u18 41), (42, u18 42), (43, u18 43), (44, u18 44), (45, u18 45), (46, u18 46), (47, u18 47), (48, u18 48), (49, u18 49), (50, u18 50), (51, u18 51), (52, u18 52), (53, u18 53), (54, u18 54), (55, u18 55), (56, u18 56), (57, u18 10), (58, .string text), (59, iN .i64 k), (60, by8 ((bl text).getD (k) 0)), (61, iN .i64 k), (62, iN .i64 (k % 16)), (63, .pointer (some ⟨q15, k % 16, none⟩)), (64, by8 ((sb key nonce (k + 1)).getD (k % 16) 0)), (65, by8 (((bl text).getD (k) 0) ^^^ ((sb key nonce (k + 1)).getD (k % 16) 0))), (66, .slice (some ⟨m39, 0, none⟩) 1 1), (67, slN (k + 1) (m40))] : List (Nat × Value)).find? (·.1 == ii)).elim undef (·.2), by kernel_rfl, h38, (by exact o37)⟩
  · rintro _ w42 ⟨u18, rfl, h43, hp⟩
    refine wp_seq ?_
    refine wp_seq ?_
    -- region 12
    refine wl_region ?_
    refine wl_val (iN .i64 text.size) (by kernel_rfl) (by kernel_rfl) ?_
    refine wl_val (.string text) (by kernel_rfl) (by kernel_rfl) ?_
    refine wl_val (iN .i64 text.size) (by kernel_rfl) (run_len (s := text) (by kernel_rfl)) ?_
    refine wl_val (.bool false) (by kernel_rfl) (run_lss (k := .i64) (a := text.size) (b := text.size) (by kernel_rfl) (by kernel_rfl) false (decide_eq_false (by omega))) ?_
    refine wl_nil ?_
    refine then_at (F := ⟨(.string key :: .string nonce :: .string text :: un :: un :: un :: .string { data := #[] } :: iN .i64 0 :: pt q3 :: pt q10 :: u18 10 :: pt q15 :: iN .i64 text.size :: u18 13 :: .string key :: iN .i64 key.size :: .bool false :: .string nonce :: iN .i64 nonce.size :: .bool false :: .string text :: iN .i64 text.size :: .bool false :: .agg (bc boxL) :: .string key :: .agg (bc boxL) :: .agg (bc (flatW (kwS key))) :: iN .i64 text.size :: .string text :: iN .i64 text.size :: .bool false :: u18 31 :: u18 32 :: u18 33 :: u18 34 :: u18 35 :: u18 36 :: u18 37 :: u18 38 :: u18 39 :: u18 40 :: u18 41 :: u18 42 :: u18 43 :: u18 44 :: u18 45 :: u18 46 :: u18 47 :: u18 48 :: u18 49 :: u18 50 :: u18 51 :: u18 52 :: u18 53 :: u18 54 :: u18 55 :: u18 56 :: u18 57 :: u18 58 :: u18 59 :: u18 60 :: u18 61 :: u18 62 :: u18 63 :: u18 64 :: u18 65 :: u18 66 :: u18 67 :: List.replicate 2 un).toArray, []⟩) (by kernel_rfl) ?_
    refine wp_cond_false (by kernel_rfl) ?_
    refine wp_exit ?_
    repeat first | refine then_exit ?_ | refine block_exit ?_ | refine block_exit_ne (by decide) ?_
    refine then_at (F := ⟨(.string key :: .string nonce :: .string text :: un :: un :: un :: .string { data := #[] } :: iN .i64 0 :: pt q3 :: pt q10 :: u18 10 :: pt q15 :: iN .i64 text.size :: u18 13 :: .string key :: iN .i64 key.size :: .bool false :: .string nonce :: iN .i64 nonce.size :: .bool false :: .string text :: iN .i64 text.size :: .bool false :: .agg (bc boxL) :: .string key :: .agg (bc boxL) :: .agg (bc (flatW (kwS key))) :: iN .i64 text.size :: .string text :: iN .i64 text.size :: .bool false :: u18 31 :: u18 32 :: u18 33 :: u18 34 :: u18 35 :: u18 36 :: u18 37 :: u18 38 :: u18 39 :: u18 40 :: u18 41 :: u18 42 :: u18 43 :: u18 44 :: u18 45 :: u18 46 :: u18 47 :: u18 48 :: u18 49 :: u18 50 :: u18 51 :: u18 52 :: u18 53 :: u18 54 :: u18 55 :: u18 56 :: u18 57 :: u18 58 :: u18 59 :: u18 60 :: u18 61 :: u18 62 :: u18 63 :: u18 64 :: u18 65 :: u18 66 :: u18 67 :: List.replicate 2 un).toArray, []⟩) (by kernel_rfl) ?_
    refine wp_seq ?_
    -- region 18
    refine wl_region ?_
    refine wl_val (u18 10) (by kernel_rfl) (by kernel_rfl) ?_
    refine wl_val (.string (⟨(rcL key nonce text text.size).toArray⟩)) (by kernel_rfl) (run_text_own (by kernel_rfl) hp.own) ?_
    refine wl_val (.string (⟨(rcL key nonce text text.size).toArray⟩)) (by kernel_rfl) (by kernel_rfl) ?_
    refine wl_val (iN .i64 0) (by kernel_rfl) (by kernel_rfl) ?_
    refine wl_nil ?_
    refine then_at (F := ⟨(.string key :: .string nonce :: .string text :: un :: un :: un :: .string (⟨(rcL key nonce text text.size).toArray⟩) :: iN .i64 0 :: pt q3 :: pt q10 :: u18 10 :: pt q15 :: iN .i64 text.size :: u18 13 :: .string key :: iN .i64 key.size :: .bool false :: .string nonce :: iN .i64 nonce.size :: .bool false :: .string text :: iN .i64 text.size :: .bool false :: .agg (bc boxL) :: .string key :: .agg (bc boxL) :: .agg (bc (flatW (kwS key))) :: iN .i64 text.size :: .string text :: iN .i64 text.size :: .bool false :: u18 31 :: u18 32 :: u18 33 :: u18 34 :: u18 35 :: u18 36 :: u18 37 :: u18 38 :: u18 39 :: u18 40 :: u18 41 :: u18 42 :: u18 43 :: u18 44 :: u18 45 :: u18 46 :: u18 47 :: u18 48 :: u18 49 :: u18 50 :: u18 51 :: u18 52 :: u18 53 :: u18 54 :: u18 55 :: u18 56 :: u18 57 :: u18 58 :: u18 59 :: u18 60 :: u18 61 :: u18 62 :: u18 63 :: u18 64 :: u18 65 :: u18 66 :: u18 67 :: u18 10 :: .string (⟨(rcL key nonce text text.size).toArray⟩) :: List.replicate 0 un).toArray, []⟩) (by kernel_rfl) ?_
    refine wp_ret ?_
    repeat first | refine then_ret ?_ | refine block_ret ?_
    exact bodyPost_ret (v := .tuple #[.string (⟨(rcL key nonce text text.size).toArray⟩), iN .i64 0]) (by kernel_rfl) rfl ⟨by rw [rcL_all]; rfl, h43.old⟩
end Go.Proofs.Ythljhhhjdajfhaa
