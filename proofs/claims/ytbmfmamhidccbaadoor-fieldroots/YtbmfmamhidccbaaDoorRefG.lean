/-
  The reference's Mul.
-/
import Derived.Test.YtbmfmamhidccbaaDoorRefG0
namespace Go.Proofs.YtbmfmamhidccbaaDoor
open Go.RowKit Num

set_option linter.unusedVariables false in
set_option maxRecDepth 100000 in
set_option maxHeartbeats 2000000 in
theorem rmul_any (a b : Nat) (ha : a < 65536 ^ 16) (hb : b < 65536 ^ 16) (w : World) : Calls Tryd.prog 27 #[rarr a, rarr b] w fun e w' => e = .returned (rarr (mulP a b)) ∧ Below w.heap.size w w' := by
  have H0 := HA.start w
  go_enter Tryd.func27, Tryd.ntmps27
  refine wp_seq ?_
  -- region 0
  refine wl_region ?_
  refine wl_make H0 30 (by kernel_rfl) (run_box30 (c := rl a) (by kernel_rfl)) ?_
  intro q1 w2 h3
  refine wl_make h3 30 (by kernel_rfl) (run_box30 (c := rl b) (by kernel_rfl)) ?_
  intro q4 w5 h6
  refine wl_make h6 30 (by kernel_rfl) run_alloc30 ?_
  intro q7 w8 h9
  refine wl_nil ?_
  refine then_at (F := ⟨(rarr a :: rarr b :: pt q1 :: pt q4 :: pt q7 :: List.replicate 49 un).toArray, []⟩) (by kernel_rfl) ?_
  refine wp_seq ?_
  -- region 1
  refine wl_region ?_
  refine wl_make h9 67 (by kernel_rfl) run_alloc67 ?_
  intro q10 w11 h12
  refine wl_nil ?_
  refine then_at (F := ⟨(rarr a :: rarr b :: pt q1 :: pt q4 :: pt q7 :: pt q10 :: List.replicate 48 un).toArray, []⟩) (by kernel_rfl) ?_
  refine wp_seq ?_
  refine wp_seq ?_
  -- region 2
  refine wl_region ?_
  refine wl_val (iN .i64 0) (by kernel_rfl) (by kernel_rfl) ?_
  refine wl_nil ?_
  refine then_at (F := ⟨(rarr a :: rarr b :: pt q1 :: pt q4 :: pt q7 :: pt q10 :: iN .i64 0 :: List.replicate 47 un).toArray, []⟩) (by kernel_rfl) ?_
  refine wp_block ?_
  refine wp_count (fun i A w' => ∃ u13 : Nat → Value, A = ⟨(rarr a :: rarr b :: pt q1 :: pt q4 :: pt q7 :: pt q10 :: iN .i64 i :: u13 7 :: un :: un :: u13 10 :: u13 11 :: u13 12 :: u13 13 :: u13 14 :: u13 15 :: u13 16 :: u13 17 :: u13 18 :: u13 19 :: u13 20 :: u13 21 :: u13 22 :: u13 23 :: u13 24 :: u13 25 :: u13 26 :: u13 27 :: u13 28 :: u13 29 :: u13 30 :: u13 31 :: u13 32 :: u13 33 :: u13 34 :: u13 35 :: u13 36 :: List.replicate 17 un).toArray, []⟩ ∧ HA w [(q10, 67, ul (wide a b i)), (q7, 30, rl 0), (q4, 30, rl b), (q1, 30, rl a)] w') 16 ?_ ?_ ?_
  · exact ⟨fun ii => (([(7, undef), (10, undef), (11, undef), (12, undef), (13, undef), (14, undef), (15, undef), (16, undef), (17, undef), (18, undef), (19, undef), (20, undef), (21, undef), (22, undef), (23, undef), (24, undef), (25, undef), (26, undef), (27, undef), (28, undef), (29, undef), (30, undef), (31, undef), (32, undef), (33, undef), (34, undef), (35, undef), (36, undef)] : List (Nat × Value)).find? (·.1 == ii)).elim undef (·.2), by kernel_rfl, h12⟩
  · rintro i hi _ w14 ⟨u13, rfl, h15⟩
    refine wp_seq ?_
    refine wp_seq ?_
    -- region 3
    refine wl_region ?_
    refine wl_val (iN .i64 i) (by kernel_rfl) (by kernel_rfl) ?_
    refine wl_val (.bool true) (by kernel_rfl) (run_lss (k := .i64) (a := i) (b := 16) (by kernel_rfl) (by kernel_rfl) true (decide_eq_true hi)) ?_
    refine wl_nil ?_
    refine then_at (F := ⟨(rarr a :: rarr b :: pt q1 :: pt q4 :: pt q7 :: pt q10 :: iN .i64 i :: u13 7 :: un :: un :: iN .i64 i :: .bool true :: u13 12 :: u13 13 :: u13 14 :: u13 15 :: u13 16 :: u13 17 :: u13 18 :: u13 19 :: u13 20 :: u13 21 :: u13 22 :: u13 23 :: u13 24 :: u13 25 :: u13 26 :: u13 27 :: u13 28 :: u13 29 :: u13 30 :: u13 31 :: u13 32 :: u13 33 :: u13 34 :: u13 35 :: u13 36 :: List.replicate 17 un).toArray, []⟩) (by kernel_rfl) ?_
    refine wp_cond_true (by kernel_rfl) ?_
    refine wp_skip ?_
    refine then_at (F := ⟨(rarr a :: rarr b :: pt q1 :: pt q4 :: pt q7 :: pt q10 :: iN .i64 i :: u13 7 :: un :: un :: iN .i64 i :: .bool true :: u13 12 :: u13 13 :: u13 14 :: u13 15 :: u13 16 :: u13 17 :: u13 18 :: u13 19 :: u13 20 :: u13 21 :: u13 22 :: u13 23 :: u13 24 :: u13 25 :: u13 26 :: u13 27 :: u13 28 :: u13 29 :: u13 30 :: u13 31 :: u13 32 :: u13 33 :: u13 34 :: u13 35 :: u13 36 :: List.replicate 17 un).toArray, []⟩) (by kernel_rfl) ?_
    refine wp_seq ?_
    refine wp_block ?_
    refine wp_seq ?_
    -- region 5
    refine wl_region ?_
    refine wl_val (iN .i64 0) (by kernel_rfl) (by kernel_rfl) ?_
    refine wl_nil ?_
    refine then_at (F := ⟨(rarr a :: rarr b :: pt q1 :: pt q4 :: pt q7 :: pt q10 :: iN .i64 i :: iN .i64 0 :: un :: un :: iN .i64 i :: .bool true :: u13 12 :: u13 13 :: u13 14 :: u13 15 :: u13 16 :: u13 17 :: u13 18 :: u13 19 :: u13 20 :: u13 21 :: u13 22 :: u13 23 :: u13 24 :: u13 25 :: u13 26 :: u13 27 :: u13 28 :: u13 29 :: u13 30 :: u13 31 :: u13 32 :: u13 33 :: u13 34 :: u13 35 :: u13 36 :: List.replicate 17 un).toArray, []⟩) (by kernel_rfl) ?_
    refine wp_block ?_
    refine wp_count (fun k A w' => ∃ u16 : Nat → Value, A = ⟨(rarr a :: rarr b :: pt q1 :: pt q4 :: pt q7 :: pt q10 :: iN .i64 i :: iN .i64 k :: un :: un :: iN .i64 i :: .bool true :: u13 12 :: u13 13 :: u16 14 :: u16 15 :: u16 16 :: u16 17 :: u16 18 :: u16 19 :: u16 20 :: u16 21 :: u16 22 :: u16 23 :: u16 24 :: u16 25 :: u16 26 :: u16 27 :: u16 28 :: u16 29 :: u16 30 :: u16 31 :: u16 32 :: u16 33 :: u16 34 :: u16 35 :: u16 36 :: List.replicate 17 un).toArray, []⟩ ∧ HA w [(q10, 67, ul (rowL a b (wide a b i) i k)), (q7, 30, rl 0), (q4, 30, rl b), (q1, 30, rl a)] w') 16 ?_ ?_ ?_
    · exact ⟨fun ii => (([(14, u13 14), (15, u13 15), (16, u13 16), (17, u13 17), (18, u13 18), (19, u13 19), (20, u13 20), (21, u13 21), (22, u13 22), (23, u13 23), (24, u13 24), (25, u13 25), (26, u13 26), (27, u13 27), (28, u13 28), (29, u13 29), (30, u13 30), (31, u13 31), (32, u13 32), (33, u13 33), (34, u13 34), (35, u13 35), (36, u13 36)] : List (Nat × Value)).find? (·.1 == ii)).elim undef (·.2), by kernel_rfl, h15⟩
    · rintro k hk _ w17 ⟨u16, rfl, h18⟩
      have hrb := row_bound a b i k hi (Nat.le_of_lt hk) (i + k)
      have hdd := dd_le a b i k
      refine wp_seq ?_
      refine wp_seq ?_
      -- region 6
      refine wl_region ?_
      refine wl_val (iN .i64 k) (by kernel_rfl) (by kernel_rfl) ?_
      refine wl_val (.bool true) (by kernel_rfl) (run_lss (k := .i64) (a := k) (b := 16) (by kernel_rfl) (by kernel_rfl) true (decide_eq_true hk)) ?_
      refine wl_nil ?_
      refine then_at (F := ⟨(rarr a :: rarr b :: pt q1 :: pt q4 :: pt q7 :: pt q10 :: iN .i64 i :: iN .i64 k :: un :: un :: iN .i64 i :: .bool true :: u13 12 :: u13 13 :: iN .i64 k :: .bool true :: u16 16 :: u16 17 :: u16 18 :: u16 19 :: u16 20 :: u16 21 :: u16 22 :: u16 23 :: u16 24 :: u16 25 :: u16 26 :: u16 27 :: u16 28 :: u16 29 :: u16 30 :: u16 31 :: u16 32 :: u16 33 :: u16 34 :: u16 35 :: u16 36 :: List.replicate 17 un).toArray, []⟩) (by kernel_rfl) ?_
      refine wp_cond_true (by kernel_rfl) ?_
      refine wp_skip ?_
      refine then_at (F := ⟨(rarr a :: rarr b :: pt q1 :: pt q4 :: pt q7 :: pt q10 :: iN .i64 i :: iN .i64 k :: un :: un :: iN .i64 i :: .bool true :: u13 12 :: u13 13 :: iN .i64 k :: .bool true :: u16 16 :: u16 17 :: u16 18 :: u16 19 :: u16 20 :: u16 21 :: u16 22 :: u16 23 :: u16 24 :: u16 25 :: u16 26 :: u16 27 :: u16 28 :: u16 29 :: u16 30 :: u16 31 :: u16 32 :: u16 33 :: u16 34 :: u16 35 :: u16 36 :: List.replicate 17 un).toArray, []⟩) (by kernel_rfl) ?_
      refine wp_seq ?_
      refine wp_block ?_
      -- region 8
      refine wp_region_ghost (fun _ : Nat → Nat => (⟨(rarr a :: rarr b :: pt q1 :: pt q4 :: pt q7 :: pt q10 :: iN .i64 i :: iN .i64 k :: un :: un :: iN .i64 i :: .bool true :: u13 12 :: u13 13 :: iN .i64 k :: .bool true :: u16 16 :: u16 17 :: iN .i64 i :: iN .i64 k :: iN .i64 (i + k) :: iN .i64 i :: iN .i64 k :: iN .i64 (i + k) :: .pointer (some ⟨q10, i + k, none⟩) :: iN .u64 (dg (rowL a b (wide a b i) i k) (i + k)) :: iN .i64 i :: .pointer (some ⟨q1, i, none⟩) :: iN .u32 (a / 65536 ^ i % 65536) :: iN .u64 (a / 65536 ^ i % 65536) :: iN .i64 k :: .pointer (some ⟨q4, k, none⟩) :: iN .u32 (b / 65536 ^ k % 65536) :: iN .u64 (b / 65536 ^ k % 65536) :: iN .u64 (dd a b i k) :: iN .u64 ((dg (rowL a b (wide a b i) i k) (i + k)) + (dd a b i k)) :: .pointer (some ⟨q10, i + k, none⟩) :: List.replicate 17 un).toArray, []⟩ : Act)) (GF w [(q10, 67, ul (rowL a b (wide a b i) i k)), (q7, 30, rl 0), (q4, 30, rl b), (q1, 30, rl a)] 19 7 0 q10 67 (ul (rowL a b (wide a b i) i (k + 1)))) [iN .i64 i, iN .i64 k, iN .i64 (i + k), iN .i64 i, iN .i64 k, iN .i64 (i + k), .pointer (some ⟨q10, i + k, none⟩), iN .u64 (dg (rowL a b (wide a b i) i k) (i + k)), iN .i64 i, .pointer (some ⟨q1, i, none⟩), iN .u32 (a / 65536 ^ i % 65536), iN .u64 (a / 65536 ^ i % 65536), iN .i64 k, .pointer (some ⟨q4, k, none⟩), iN .u32 (b / 65536 ^ k % 65536), iN .u64 (b / 65536 ^ k % 65536), iN .u64 (dd a b i k), iN .u64 ((dg (rowL a b (wide a b i) i k) (i + k)) + (dd a b i k)), .pointer (some ⟨q10, i + k, none⟩), undef] (by kernel_rfl) (by kernel_rfl) (by kernel_rfl) (by kernel_rfl) (fun _ _ _ _ h => h) (fun d hd => GF.start h18.drew (hd 19 (by decide))) ?_ ?_
      · refine AllGhost.cons (gf_plain (v := iN .i64 i) (by decide) (fun _ => by kernel_rfl) (fun _ => by kernel_rfl) (fun _ _ => (by kernel_rfl))) ?_
        refine AllGhost.cons (gf_plain (v := iN .i64 k) (by decide) (fun _ => by kernel_rfl) (fun _ => by kernel_rfl) (fun _ _ => (by kernel_rfl))) ?_
        refine AllGhost.cons (gf_plain (v := iN .i64 (i + k)) (by decide) (fun _ => by kernel_rfl) (fun _ => by kernel_rfl) (fun _ _ => (run_add (k := .i64) (a := i) (b := k) (by kernel_rfl) (by kernel_rfl) (by simp only [top]; omega)))) ?_
        refine AllGhost.cons (gf_plain (v := iN .i64 i) (by decide) (fun _ => by kernel_rfl) (fun _ => by kernel_rfl) (fun _ _ => (by kernel_rfl))) ?_
        refine AllGhost.cons (gf_plain (v := iN .i64 k) (by decide) (fun _ => by kernel_rfl) (fun _ => by kernel_rfl) (fun _ _ => (by kernel_rfl))) ?_
        refine AllGhost.cons (gf_plain (v := iN .i64 (i + k)) (by decide) (fun _ => by kernel_rfl) (fun _ => by kernel_rfl) (fun _ _ => (run_add (k := .i64) (a := i) (b := k) (by kernel_rfl) (by kernel_rfl) (by simp only [top]; omega)))) ?_
        refine AllGhost.cons (gf_plain (v := .pointer (some ⟨q10, i + k, none⟩)) (by decide) (fun _ => by kernel_rfl) (fun _ => by kernel_rfl) (fun _ _ => (run_addr_arr (q := q10) (a := i + k) Tryd.underlying67 (fun w => Tryd.sizeOf23 w) (by kernel_rfl) (by kernel_rfl) (by omega)))) ?_
        refine AllGhost.cons (gf_cell (v := iN .u64 (dg (rowL a b (wide a b i) i k) (i + k))) 0 rfl (by decide) (i + k) (ul_get _ (i + k) (by rw [rowL_len, wide_len]; omega)) (fun w => Tryd.isAgg23 w) (fun _ => by kernel_rfl) (fun _ => by kernel_rfl) (fun _ => by kernel_rfl)) ?_
        refine AllGhost.cons (gf_plain (v := iN .i64 i) (by decide) (fun _ => by kernel_rfl) (fun _ => by kernel_rfl) (fun _ _ => (by kernel_rfl))) ?_
        refine AllGhost.cons (gf_plain (v := .pointer (some ⟨q1, i, none⟩)) (by decide) (fun _ => by kernel_rfl) (fun _ => by kernel_rfl) (fun _ _ => (run_addr_arr (q := q1) (a := i) Tryd.underlying30 (fun w => Tryd.sizeOf22 w) (by kernel_rfl) (by kernel_rfl) (by omega)))) ?_
        refine AllGhost.cons (gf_cell2 (v := iN .u32 (a / 65536 ^ i % 65536)) 3 (by decide) rfl (by decide) i (rl_get a i (by omega)) (fun w => Tryd.isAgg22 w) (fun _ => by kernel_rfl) (fun _ => by kernel_rfl) (fun _ => by kernel_rfl)) ?_
        refine AllGhost.cons (gf_plain (v := iN .u64 (a / 65536 ^ i % 65536)) (by decide) (fun _ => by kernel_rfl) (fun _ => by kernel_rfl) (fun _ _ => (run_conv (k := .u32) (a := a / 65536 ^ i % 65536) .u64 Tryd.underlying22 Tryd.underlying23 (by kernel_rfl) (Nat.lt_trans (Nat.mod_lt _ (by decide)) (by decide))))) ?_
        refine AllGhost.cons (gf_plain (v := iN .i64 k) (by decide) (fun _ => by kernel_rfl) (fun _ => by kernel_rfl) (fun _ _ => (by kernel_rfl))) ?_
        refine AllGhost.cons (gf_plain (v := .pointer (some ⟨q4, k, none⟩)) (by decide) (fun _ => by kernel_rfl) (fun _ => by kernel_rfl) (fun _ _ => (run_addr_arr (q := q4) (a := k) Tryd.underlying30 (fun w => Tryd.sizeOf22 w) (by kernel_rfl) (by kernel_rfl) (by omega)))) ?_
        refine AllGhost.cons (gf_cell2 (v := iN .u32 (b / 65536 ^ k % 65536)) 2 (by decide) rfl (by decide) k (rl_get b k (by omega)) (fun w => Tryd.isAgg22 w) (fun _ => by kernel_rfl) (fun _ => by kernel_rfl) (fun _ => by kernel_rfl)) ?_
        refine AllGhost.cons (gf_plain (v := iN .u64 (b / 65536 ^ k % 65536)) (by decide) (fun _ => by kernel_rfl) (fun _ => by kernel_rfl) (fun _ _ => (run_conv (k := .u32) (a := b / 65536 ^ k % 65536) .u64 Tryd.underlying22 Tryd.underlying23 (by kernel_rfl) (Nat.lt_trans (Nat.mod_lt _ (by decide)) (by decide))))) ?_
        refine AllGhost.cons (gf_plain (v := iN .u64 (dd a b i k)) (by decide) (fun _ => by kernel_rfl) (fun _ => by kernel_rfl) (fun _ _ => (run_mul (k := .u64) (a := a / 65536 ^ i % 65536) (b := b / 65536 ^ k % 65536) (by kernel_rfl) (by kernel_rfl) (Nat.lt_of_le_of_lt (dd_le a b i k) (by decide))))) ?_
        refine AllGhost.cons (gf_plain (v := iN .u64 ((dg (rowL a b (wide a b i) i k) (i + k)) + (dd a b i k))) (by decide) (fun _ => by kernel_rfl) (fun _ => by kernel_rfl) (fun _ _ => (run_add (k := .u64) (a := dg (rowL a b (wide a b i) i k) (i + k)) (b := dd a b i k) (by kernel_rfl) (by kernel_rfl) (by simp only [top]; omega)))) ?_
        refine AllGhost.cons (gf_plain (v := .pointer (some ⟨q10, i + k, none⟩)) (by decide) (fun _ => by kernel_rfl) (fun _ => by kernel_rfl) (fun _ _ => (run_addr_arr (q := q10) (a := i + k) Tryd.underlying67 (fun w => Tryd.sizeOf23 w) (by kernel_rfl) (by kernel_rfl) (by omega)))) ?_
        refine AllGhost.cons (gf_put (k := .u64) (z := (((dg (rowL a b (wide a b i) i k) (i + k)) + (dd a b i k) : Nat) : Int)) (off := i + k) rfl (by rw [ul_size, rowL_len, wide_len]; omega) (ul_put (rowL a b (wide a b i) i k) (i + k) _) (fun w => Tryd.sizeOf23 w) (fun _ => by kernel_rfl) (fun _ => by kernel_rfl) (fun _ => by kernel_rfl) (fun _ => by kernel_rfl) (by decide) (by kernel_rfl)) ?_
        exact AllGhost.nil
      intro _ w19 g20
      have h21 : HA w [(q10, 67, ul (rowL a b (wide a b i) i (k + 1))), (q7, 30, rl 0), (q4, 30, rl b), (q1, 30, rl a)] w19 := g20.held
      clear g20
      refine block_normal ?_
      refine then_at (F := ⟨(rarr a :: rarr b :: pt q1 :: pt q4 :: pt q7 :: pt q10 :: iN .i64 i :: iN .i64 k :: un :: un :: iN .i64 i :: .bool true :: u13 12 :: u13 13 :: iN .i64 k :: .bool true :: u16 16 :: u16 17 :: iN .i64 i :: iN .i64 k :: iN .i64 (i + k) :: iN .i64 i :: iN .i64 k :: iN .i64 (i + k) :: .pointer (some ⟨q10, i + k, none⟩) :: iN .u64 (dg (rowL a b (wide a b i) i k) (i + k)) :: iN .i64 i :: .pointer (some ⟨q1, i, none⟩) :: iN .u32 (a / 65536 ^ i % 65536) :: iN .u64 (a / 65536 ^ i % 65536) :: iN .i64 k :: .pointer (some ⟨q4, k, none⟩) :: iN .u32 (b / 65536 ^ k % 65536) :: iN .u64 (b / 65536 ^ k % 65536) :: iN .u64 (dd a b i k) :: iN .u64 ((dg (rowL a b (wide a b i) i k) (i + k)) + (dd a b i k)) :: .pointer (some ⟨q10, i + k, none⟩) :: List.replicate 17 un).toArray, []⟩) (by kernel_rfl) ?_
      -- region 7
      refine wl_region ?_
      refine wl_val (iN .i64 k) (by kernel_rfl) (by kernel_rfl) ?_
      refine wl_val (iN .i64 (k + 1)) (by kernel_rfl) (run_add (k := .i64) (a := k) (b := 1) (by kernel_rfl) (by kernel_rfl) (by simp only [top]; omega)) ?_
      refine wl_val (iN .i64 (k + 1)) (by kernel_rfl) (by kernel_rfl) ?_
      refine wl_nil ?_
      exact then_I ⟨fun ii => (([(14, iN .i64 k), (15, .bool true), (16, iN .i64 k), (17, iN .i64 (k + 1)), (18, iN .i64 i), (19, iN .i64 k), (20, iN .i64 (i + k)), (21, iN .i64 i), (22, iN .i64 k), (23, iN .i64 (i + k)), (24, .pointer (some ⟨q10, i + k, none⟩)), (25, iN .u64 (dg (rowL a b (wide a b i) i k) (i + k))), (26, iN .i64 i), (27, .pointer (some ⟨q1, i, none⟩)), (28, iN .u32 (a / 65536 ^ i % 65536)), (29, iN .u64 (a / 65536 ^ i % 65536)), (30, iN .i64 k), (31, .pointer (some ⟨q4, k, none⟩)), (32, iN .u32 (b / 65536 ^ k % 65536)), (33, iN .u64 (b / 65536 ^ k % 65536)), (34, iN .u64 (dd a b i k)), (35, iN .u64 ((dg (rowL a b (wide a b i) i k) (i + k)) + (dd a b i k))), (36, .pointer (some ⟨q10, i + k, none⟩))] : List (Nat × Value)).find? (·.1 == ii)).elim undef (·.2), by kernel_rfl, h21⟩
    · rintro _ w22 ⟨u16, rfl, h23⟩
      refine wp_seq ?_
      refine wp_seq ?_
      -- region 6
      refine wl_region ?_
      refine wl_val (iN .i64 16) (by kernel_rfl) (by kernel_rfl) ?_
      refine wl_val (.bool false) (by kernel_rfl) (run_lss (k := .i64) (a := 16) (b := 16) (by kernel_rfl) (by kernel_rfl) false (by decide)) ?_
      refine wl_nil ?_
      refine then_at (F := ⟨(rarr a :: rarr b :: pt q1 :: pt q4 :: pt q7 :: pt q10 :: iN .i64 i :: iN .i64 16 :: un :: un :: iN .i64 i :: .bool true :: u13 12 :: u13 13 :: iN .i64 16 :: .bool false :: u16 16 :: u16 17 :: u16 18 :: u16 19 :: u16 20 :: u16 21 :: u16 22 :: u16 23 :: u16 24 :: u16 25 :: u16 26 :: u16 27 :: u16 28 :: u16 29 :: u16 30 :: u16 31 :: u16 32 :: u16 33 :: u16 34 :: u16 35 :: u16 36 :: List.replicate 17 un).toArray, []⟩) (by kernel_rfl) ?_
      refine wp_cond_false (by kernel_rfl) ?_
      refine wp_exit ?_
      repeat first | refine then_exit ?_ | refine block_exit ?_ | refine block_exit_ne (by decide) ?_
      have h24 : HA w [(q10, 67, ul (wide a b (i + 1))), (q7, 30, rl 0), (q4, 30, rl b), (q1, 30, rl a)] w22 := h23
      refine block_normal ?_
      refine then_at (F := ⟨(rarr a :: rarr b :: pt q1 :: pt q4 :: pt q7 :: pt q10 :: iN .i64 i :: iN .i64 16 :: un :: un :: iN .i64 i :: .bool true :: u13 12 :: u13 13 :: iN .i64 16 :: .bool false :: u16 16 :: u16 17 :: u16 18 :: u16 19 :: u16 20 :: u16 21 :: u16 22 :: u16 23 :: u16 24 :: u16 25 :: u16 26 :: u16 27 :: u16 28 :: u16 29 :: u16 30 :: u16 31 :: u16 32 :: u16 33 :: u16 34 :: u16 35 :: u16 36 :: List.replicate 17 un).toArray, []⟩) (by kernel_rfl) ?_
      -- region 4
      refine wl_region ?_
      refine wl_val (iN .i64 i) (by kernel_rfl) (by kernel_rfl) ?_
      refine wl_val (iN .i64 (i + 1)) (by kernel_rfl) (run_add (k := .i64) (a := i) (b := 1) (by kernel_rfl) (by kernel_rfl) (by simp only [top]; omega)) ?_
      refine wl_val (iN .i64 (i + 1)) (by kernel_rfl) (by kernel_rfl) ?_
      refine wl_nil ?_
      exact then_I ⟨fun ii => (([(7, iN .i64 16), (10, iN .i64 i), (11, .bool true), (12, iN .i64 i), (13, iN .i64 (i + 1)), (14, iN .i64 16), (15, .bool false), (16, u16 16), (17, u16 17), (18, u16 18), (19, u16 19), (20, u16 20), (21, u16 21), (22, u16 22), (23, u16 23), (24, u16 24), (25, u16 25), (26, u16 26), (27, u16 27), (28, u16 28), (29, u16 29), (30, u16 30), (31, u16 31), (32, u16 32), (33, u16 33), (34, u16 34), (35, u16 35), (36, u16 36)] : List (Nat × Value)).find? (·.1 == ii)).elim undef (·.2), by kernel_rfl, h24⟩
  · rintro _ w25 ⟨u13, rfl, h26⟩
    refine wp_seq ?_
    refine wp_seq ?_
    -- region 3
    refine wl_region ?_
    refine wl_val (iN .i64 16) (by kernel_rfl) (by kernel_rfl) ?_
    refine wl_val (.bool false) (by kernel_rfl) (run_lss (k := .i64) (a := 16) (b := 16) (by kernel_rfl) (by kernel_rfl) false (by decide)) ?_
    refine wl_nil ?_
    refine then_at (F := ⟨(rarr a :: rarr b :: pt q1 :: pt q4 :: pt q7 :: pt q10 :: iN .i64 16 :: u13 7 :: un :: un :: iN .i64 16 :: .bool false :: u13 12 :: u13 13 :: u13 14 :: u13 15 :: u13 16 :: u13 17 :: u13 18 :: u13 19 :: u13 20 :: u13 21 :: u13 22 :: u13 23 :: u13 24 :: u13 25 :: u13 26 :: u13 27 :: u13 28 :: u13 29 :: u13 30 :: u13 31 :: u13 32 :: u13 33 :: u13 34 :: u13 35 :: u13 36 :: List.replicate 17 un).toArray, []⟩) (by kernel_rfl) ?_
    refine wp_cond_false (by kernel_rfl) ?_
    refine wp_exit ?_
    repeat first | refine then_exit ?_ | refine block_exit ?_ | refine block_exit_ne (by decide) ?_
    refine then_at (F := ⟨(rarr a :: rarr b :: pt q1 :: pt q4 :: pt q7 :: pt q10 :: iN .i64 16 :: u13 7 :: un :: un :: iN .i64 16 :: .bool false :: u13 12 :: u13 13 :: u13 14 :: u13 15 :: u13 16 :: u13 17 :: u13 18 :: u13 19 :: u13 20 :: u13 21 :: u13 22 :: u13 23 :: u13 24 :: u13 25 :: u13 26 :: u13 27 :: u13 28 :: u13 29 :: u13 30 :: u13 31 :: u13 32 :: u13 33 :: u13 34 :: u13 35 :: u13 36 :: List.replicate 17 un).toArray, []⟩) (by kernel_rfl) ?_
    refine wp_seq ?_
    -- region 9
    refine wl_region ?_
    refine wl_make h26 61 (by kernel_rfl) run_alloc61 ?_
    intro q27 w28 h29
    refine wl_nil ?_
    refine then_at (F := ⟨(rarr a :: rarr b :: pt q1 :: pt q4 :: pt q7 :: pt q10 :: iN .i64 16 :: u13 7 :: pt q27 :: un :: iN .i64 16 :: .bool false :: u13 12 :: u13 13 :: u13 14 :: u13 15 :: u13 16 :: u13 17 :: u13 18 :: u13 19 :: u13 20 :: u13 21 :: u13 22 :: u13 23 :: u13 24 :: u13 25 :: u13 26 :: u13 27 :: u13 28 :: u13 29 :: u13 30 :: u13 31 :: u13 32 :: u13 33 :: u13 34 :: u13 35 :: u13 36 :: List.replicate 17 un).toArray, []⟩) (by kernel_rfl) ?_
    refine wp_seq ?_
    refine wp_seq ?_
    -- region 10
    refine wl_region ?_
    refine wl_val (iN .i64 0) (by kernel_rfl) (by kernel_rfl) ?_
    refine wl_nil ?_
    refine then_at (F := ⟨(rarr a :: rarr b :: pt q1 :: pt q4 :: pt q7 :: pt q10 :: iN .i64 16 :: u13 7 :: pt q27 :: iN .i64 0 :: iN .i64 16 :: .bool false :: u13 12 :: u13 13 :: u13 14 :: u13 15 :: u13 16 :: u13 17 :: u13 18 :: u13 19 :: u13 20 :: u13 21 :: u13 22 :: u13 23 :: u13 24 :: u13 25 :: u13 26 :: u13 27 :: u13 28 :: u13 29 :: u13 30 :: u13 31 :: u13 32 :: u13 33 :: u13 34 :: u13 35 :: u13 36 :: List.replicate 17 un).toArray, []⟩) (by kernel_rfl) ?_
    refine wp_block ?_
    refine wp_count (fun k A w' => ∃ u30 : Nat → Value, A = ⟨(rarr a :: rarr b :: pt q1 :: pt q4 :: pt q7 :: pt q10 :: iN .i64 16 :: u13 7 :: pt q27 :: iN .i64 k :: iN .i64 16 :: .bool false :: u13 12 :: u13 13 :: u13 14 :: u13 15 :: u13 16 :: u13 17 :: u13 18 :: u13 19 :: u13 20 :: u13 21 :: u13 22 :: u13 23 :: u13 24 :: u13 25 :: u13 26 :: u13 27 :: u13 28 :: u13 29 :: u13 30 :: u13 31 :: u13 32 :: u13 33 :: u13 34 :: u13 35 :: u13 36 :: u30 37 :: u30 38 :: u30 39 :: u30 40 :: u30 41 :: u30 42 :: u30 43 :: u30 44 :: u30 45 :: u30 46 :: u30 47 :: u30 48 :: u30 49 :: u30 50 :: u30 51 :: List.replicate 2 un).toArray, []⟩ ∧ HA w [(q27, 61, ul (fillL (halves (wide a b 16)) k)), (q10, 67, ul (wide a b 16)), (q7, 30, rl 0), (q4, 30, rl b), (q1, 30, rl a)] w') 16 ?_ ?_ ?_
    · exact ⟨fun ii => (([(37, undef), (38, undef), (39, undef), (40, undef), (41, undef), (42, undef), (43, undef), (44, undef), (45, undef), (46, undef), (47, undef), (48, undef), (49, undef), (50, undef), (51, undef)] : List (Nat × Value)).find? (·.1 == ii)).elim undef (·.2), by kernel_rfl, h29⟩
    · rintro k hk _ w31 ⟨u30, rfl, h32⟩
      have hw1 := wide_bound a b 16 (Nat.le_refl _) k
      have hw2 := wide_bound a b 16 (Nat.le_refl _) (k + 16)
      refine wp_seq ?_
      refine wp_seq ?_
      -- region 11
      refine wl_region ?_
      refine wl_val (iN .i64 k) (by kernel_rfl) (by kernel_rfl) ?_
      refine wl_val (.bool true) (by kernel_rfl) (run_lss (k := .i64) (a := k) (b := 16) (by kernel_rfl) (by kernel_rfl) true (decide_eq_true hk)) ?_
      refine wl_nil ?_
      refine then_at (F := ⟨(rarr a :: rarr b :: pt q1 :: pt q4 :: pt q7 :: pt q10 :: iN .i64 16 :: u13 7 :: pt q27 :: iN .i64 k :: iN .i64 16 :: .bool false :: u13 12 :: u13 13 :: u13 14 :: u13 15 :: u13 16 :: u13 17 :: u13 18 :: u13 19 :: u13 20 :: u13 21 :: u13 22 :: u13 23 :: u13 24 :: u13 25 :: u13 26 :: u13 27 :: u13 28 :: u13 29 :: u13 30 :: u13 31 :: u13 32 :: u13 33 :: u13 34 :: u13 35 :: u13 36 :: iN .i64 k :: .bool true :: u30 39 :: u30 40 :: u30 41 :: u30 42 :: u30 43 :: u30 44 :: u30 45 :: u30 46 :: u30 47 :: u30 48 :: u30 49 :: u30 50 :: u30 51 :: List.replicate 2 un).toArray, []⟩) (by kernel_rfl) ?_
      refine wp_cond_true (by kernel_rfl) ?_
      refine wp_skip ?_
      refine then_at (F := ⟨(rarr a :: rarr b :: pt q1 :: pt q4 :: pt q7 :: pt q10 :: iN .i64 16 :: u13 7 :: pt q27 :: iN .i64 k :: iN .i64 16 :: .bool false :: u13 12 :: u13 13 :: u13 14 :: u13 15 :: u13 16 :: u13 17 :: u13 18 :: u13 19 :: u13 20 :: u13 21 :: u13 22 :: u13 23 :: u13 24 :: u13 25 :: u13 26 :: u13 27 :: u13 28 :: u13 29 :: u13 30 :: u13 31 :: u13 32 :: u13 33 :: u13 34 :: u13 35 :: u13 36 :: iN .i64 k :: .bool true :: u30 39 :: u30 40 :: u30 41 :: u30 42 :: u30 43 :: u30 44 :: u30 45 :: u30 46 :: u30 47 :: u30 48 :: u30 49 :: u30 50 :: u30 51 :: List.replicate 2 un).toArray, []⟩) (by kernel_rfl) ?_
      refine wp_seq ?_
      refine wp_block ?_
      -- region 13
      refine wp_region_ghost (fun _ : Nat → Nat => (⟨(rarr a :: rarr b :: pt q1 :: pt q4 :: pt q7 :: pt q10 :: iN .i64 16 :: u13 7 :: pt q27 :: iN .i64 k :: iN .i64 16 :: .bool false :: u13 12 :: u13 13 :: u13 14 :: u13 15 :: u13 16 :: u13 17 :: u13 18 :: u13 19 :: u13 20 :: u13 21 :: u13 22 :: u13 23 :: u13 24 :: u13 25 :: u13 26 :: u13 27 :: u13 28 :: u13 29 :: u13 30 :: u13 31 :: u13 32 :: u13 33 :: u13 34 :: u13 35 :: u13 36 :: iN .i64 k :: .bool true :: u30 39 :: u30 40 :: iN .i64 k :: iN .i64 k :: .pointer (some ⟨q10, k, none⟩) :: iN .u64 (dg (wide a b 16) k) :: iN .i64 k :: iN .i64 (k + 16) :: .pointer (some ⟨q10, k + 16, none⟩) :: iN .u64 (dg (wide a b 16) (k + 16)) :: iN .u64 (38 * (dg (wide a b 16) (k + 16))) :: iN .u64 ((dg (wide a b 16) k) + (38 * (dg (wide a b 16) (k + 16)))) :: .pointer (some ⟨q27, k, none⟩) :: List.replicate 2 un).toArray, []⟩ : Act)) (GP w [(q27, 61, ul (fillL (halves (wide a b 16)) k)), (q10, 67, ul (wide a b 16)), (q7, 30, rl 0), (q4, 30, rl b), (q1, 30, rl a)] 11 0 q27 61 (ul (fillL (halves (wide a b 16)) (k + 1)))) [iN .i64 k, iN .i64 k, .pointer (some ⟨q10, k, none⟩), iN .u64 (dg (wide a b 16) k), iN .i64 k, iN .i64 (k + 16), .pointer (some ⟨q10, k + 16, none⟩), iN .u64 (dg (wide a b 16) (k + 16)), iN .u64 (38 * (dg (wide a b 16) (k + 16))), iN .u64 ((dg (wide a b 16) k) + (38 * (dg (wide a b 16) (k + 16)))), .pointer (some ⟨q27, k, none⟩), undef] (by kernel_rfl) (by kernel_rfl) (by kernel_rfl) (by kernel_rfl) (fun _ _ _ _ h => h) (fun d hd => GP.start h32.drew (hd 11 (by decide))) ?_ ?_
      · refine AllGhost.cons (gp_plain (v := iN .i64 k) (by decide) (fun _ => by kernel_rfl) (fun _ => by kernel_rfl) (fun _ _ => (by kernel_rfl))) ?_
        refine AllGhost.cons (gp_plain (v := iN .i64 k) (by decide) (fun _ => by kernel_rfl) (fun _ => by kernel_rfl) (fun _ _ => (by kernel_rfl))) ?_
        refine AllGhost.cons (gp_plain (v := .pointer (some ⟨q10, k, none⟩)) (by decide) (fun _ => by kernel_rfl) (fun _ => by kernel_rfl) (fun _ _ => (run_addr_arr (q := q10) (a := k) Tryd.underlying67 (fun w => Tryd.sizeOf23 w) (by kernel_rfl) (by kernel_rfl) (by omega)))) ?_
        refine AllGhost.cons (gp_cell (v := iN .u64 (dg (wide a b 16) k)) 1 (by decide) rfl (by decide) k (ul_get _ k (by rw [wide_len]; omega)) (fun w => Tryd.isAgg23 w) (fun _ => by kernel_rfl) (fun _ => by kernel_rfl) (fun _ => by kernel_rfl)) ?_
        refine AllGhost.cons (gp_plain (v := iN .i64 k) (by decide) (fun _ => by kernel_rfl) (fun _ => by kernel_rfl) (fun _ _ => (by kernel_rfl))) ?_
        refine AllGhost.cons (gp_plain (v := iN .i64 (k + 16)) (by decide) (fun _ => by kernel_rfl) (fun _ => by kernel_rfl) (fun _ _ => (run_add (k := .i64) (a := k) (b := 16) (by kernel_rfl) (by kernel_rfl) (by simp only [top]; omega)))) ?_
        refine AllGhost.cons (gp_plain (v := .pointer (some ⟨q10, k + 16, none⟩)) (by decide) (fun _ => by kernel_rfl) (fun _ => by kernel_rfl) (fun _ _ => (run_addr_arr (q := q10) (a := k + 16) Tryd.underlying67 (fun w => Tryd.sizeOf23 w) (by kernel_rfl) (by kernel_rfl) (by omega)))) ?_
        refine AllGhost.cons (gp_cell (v := iN .u64 (dg (wide a b 16) (k + 16))) 1 (by decide) rfl (by decide) (k + 16) (ul_get _ (k + 16) (by rw [wide_len]; omega)) (fun w => Tryd.isAgg23 w) (fun _ => by kernel_rfl) (fun _ => by kernel_rfl) (fun _ => by kernel_rfl)) ?_
        refine AllGhost.cons (gp_plain (v := iN .u64 (38 * (dg (wide a b 16) (k + 16)))) (by decide) (fun _ => by kernel_rfl) (fun _ => by kernel_rfl) (fun _ _ => (run_mul (k := .u64) (a := 38) (b := dg (wide a b 16) (k + 16)) (by kernel_rfl) (by kernel_rfl) (by simp only [top]; omega)))) ?_
        refine AllGhost.cons (gp_plain (v := iN .u64 ((dg (wide a b 16) k) + (38 * (dg (wide a b 16) (k + 16))))) (by decide) (fun _ => by kernel_rfl) (fun _ => by kernel_rfl) (fun _ _ => (run_add (k := .u64) (a := dg (wide a b 16) k) (b := 38 * (dg (wide a b 16) (k + 16))) (by kernel_rfl) (by kernel_rfl) (by simp only [top]; omega)))) ?_
        refine AllGhost.cons (gp_plain (v := .pointer (some ⟨q27, k, none⟩)) (by decide) (fun _ => by kernel_rfl) (fun _ => by kernel_rfl) (fun _ _ => (run_addr_arr (q := q27) (a := k) Tryd.underlying61 (fun w => Tryd.sizeOf23 w) (by kernel_rfl) (by kernel_rfl) (by omega)))) ?_
        refine AllGhost.cons (gp_put (k := .u64) (z := (((dg (wide a b 16) k) + (38 * (dg (wide a b 16) (k + 16))) : Nat) : Int)) (off := k) rfl (by rw [ul_size, fill_len _ (halves_len _ (wide_len a b 16)) k (by omega)]; exact hk) (fill_cells _ (halves_len _ (wide_len a b 16)) k hk _ (halves_dg _ (wide_len a b 16) k hk).symm) (fun w => Tryd.sizeOf23 w) (fun _ => by kernel_rfl) (fun _ => by kernel_rfl) (fun _ => by kernel_rfl) (fun _ => by kernel_rfl)) ?_
        exact AllGhost.nil
      intro _ w33 g34
      have h35 : HA w [(q27, 61, ul (fillL (halves (wide a b 16)) (k + 1))), (q10, 67, ul (wide a b 16)), (q7, 30, rl 0), (q4, 30, rl b), (q1, 30, rl a)] w33 := g34
      clear g34
      refine block_normal ?_
      refine then_at (F := ⟨(rarr a :: rarr b :: pt q1 :: pt q4 :: pt q7 :: pt q10 :: iN .i64 16 :: u13 7 :: pt q27 :: iN .i64 k :: iN .i64 16 :: .bool false :: u13 12 :: u13 13 :: u13 14 :: u13 15 :: u13 16 :: u13 17 :: u13 18 :: u13 19 :: u13 20 :: u13 21 :: u13 22 :: u13 23 :: u13 24 :: u13 25 :: u13 26 :: u13 27 :: u13 28 :: u13 29 :: u13 30 :: u13 31 :: u13 32 :: u13 33 :: u13 34 :: u13 35 :: u13 36 :: iN .i64 k :: .bool true :: u30 39 :: u30 40 :: iN .i64 k :: iN .i64 k :: .pointer (some ⟨q10, k, none⟩) :: iN .u64 (dg (wide a b 16) k) :: iN .i64 k :: iN .i64 (k + 16) :: .pointer (some ⟨q10, k + 16, none⟩) :: iN .u64 (dg (wide a b 16) (k + 16)) :: iN .u64 (38 * (dg (wide a b 16) (k + 16))) :: iN .u64 ((dg (wide a b 16) k) + (38 * (dg (wide a b 16) (k + 16)))) :: .pointer (some ⟨q27, k, none⟩) :: List.replicate 2 un).toArray, []⟩) (by kernel_rfl) ?_
      -- region 12
      refine wl_region ?_
      refine wl_val (iN .i64 k) (by kernel_rfl) (by kernel_rfl) ?_
      refine wl_val (iN .i64 (k + 1)) (by kernel_rfl) (run_add (k := .i64) (a := k) (b := 1) (by kernel_rfl) (by kernel_rfl) (by simp only [top]; omega)) ?_
      refine wl_val (iN .i64 (k + 1)) (by kernel_rfl) (by kernel_rfl) ?_
      refine wl_nil ?_
      exact then_I ⟨fun ii => (([(37, iN .i64 k), (38, .bool true), (39, iN .i64 k), (40, iN .i64 (k + 1)), (41, iN .i64 k), (42, iN .i64 k), (43, .pointer (some ⟨q10, k, none⟩)), (44, iN .u64 (dg (wide a b 16) k)), (45, iN .i64 k), (46, iN .i64 (k + 16)), (47, .pointer (some ⟨q10, k + 16, none⟩)), (48, iN .u64 (dg (wide a b 16) (k + 16))), (49, iN .u64 (38 * (dg (wide a b 16) (k + 16)))), (50, iN .u64 ((dg (wide a b 16) k) + (38 * (dg (wide a b 16) (k + 16))))), (51, .pointer (some ⟨q27, k, none⟩))] : List (Nat × Value)).find? (·.1 == ii)).elim undef (·.2), by kernel_rfl, h35⟩
    · rintro _ w36 ⟨u30, rfl, h37⟩
      refine wp_seq ?_
      refine wp_seq ?_
      -- region 11
      refine wl_region ?_
      refine wl_val (iN .i64 16) (by kernel_rfl) (by kernel_rfl) ?_
      refine wl_val (.bool false) (by kernel_rfl) (run_lss (k := .i64) (a := 16) (b := 16) (by kernel_rfl) (by kernel_rfl) false (by decide)) ?_
      refine wl_nil ?_
      refine then_at (F := ⟨(rarr a :: rarr b :: pt q1 :: pt q4 :: pt q7 :: pt q10 :: iN .i64 16 :: u13 7 :: pt q27 :: iN .i64 16 :: iN .i64 16 :: .bool false :: u13 12 :: u13 13 :: u13 14 :: u13 15 :: u13 16 :: u13 17 :: u13 18 :: u13 19 :: u13 20 :: u13 21 :: u13 22 :: u13 23 :: u13 24 :: u13 25 :: u13 26 :: u13 27 :: u13 28 :: u13 29 :: u13 30 :: u13 31 :: u13 32 :: u13 33 :: u13 34 :: u13 35 :: u13 36 :: iN .i64 16 :: .bool false :: u30 39 :: u30 40 :: u30 41 :: u30 42 :: u30 43 :: u30 44 :: u30 45 :: u30 46 :: u30 47 :: u30 48 :: u30 49 :: u30 50 :: u30 51 :: List.replicate 2 un).toArray, []⟩) (by kernel_rfl) ?_
      refine wp_cond_false (by kernel_rfl) ?_
      refine wp_exit ?_
      repeat first | refine then_exit ?_ | refine block_exit ?_ | refine block_exit_ne (by decide) ?_
      have h38 : HA w [(q27, 61, ul (halves (wide a b 16))), (q10, 67, ul (wide a b 16)), (q7, 30, rl 0), (q4, 30, rl b), (q1, 30, rl a)] w36 := by have h9 := h37; rw [fill_end _ (halves_len _ (wide_len a b 16))] at h9; exact h9
      refine then_at (F := ⟨(rarr a :: rarr b :: pt q1 :: pt q4 :: pt q7 :: pt q10 :: iN .i64 16 :: u13 7 :: pt q27 :: iN .i64 16 :: iN .i64 16 :: .bool false :: u13 12 :: u13 13 :: u13 14 :: u13 15 :: u13 16 :: u13 17 :: u13 18 :: u13 19 :: u13 20 :: u13 21 :: u13 22 :: u13 23 :: u13 24 :: u13 25 :: u13 26 :: u13 27 :: u13 28 :: u13 29 :: u13 30 :: u13 31 :: u13 32 :: u13 33 :: u13 34 :: u13 35 :: u13 36 :: iN .i64 16 :: .bool false :: u30 39 :: u30 40 :: u30 41 :: u30 42 :: u30 43 :: u30 44 :: u30 45 :: u30 46 :: u30 47 :: u30 48 :: u30 49 :: u30 50 :: u30 51 :: List.replicate 2 un).toArray, []⟩) (by kernel_rfl) ?_
      refine wp_seq ?_
      -- region 14
      refine wl_region ?_
      refine wl_load h38 0 rfl (by kernel_rfl) (by kernel_rfl) Tryd.underlying61 rfl (by rw [ul_size, halves_len _ (wide_len a b 16)]; exact info61) ?_
      refine wl_call (v := rarr (num 65536 (halves (wide a b 16)) % P)) h38 (by kernel_rfl) enter39 #[.agg (ul (halves (wide a b 16)))] (by kernel_rfl) (reduced_any _ (halves_len _ (wide_len a b 16)) (halves_bound a b) w36) ?_
      intro w39 h40
      refine wl_fill (c' := rl (num 65536 (halves (wide a b 16)) % P)) h40 2 rfl (by kernel_rfl) (by kernel_rfl) (by kernel_rfl) (rl_sz _ _) (info_rl _) (one_rl _) ?_
      intro w41 (h42 : HA w [(q27, 61, ul (halves (wide a b 16))), (q10, 67, ul (wide a b 16)), (q7, 30, rl (num 65536 (halves (wide a b 16)) % P)), (q4, 30, rl b), (q1, 30, rl a)] w41)
      refine wl_nil ?_
      refine then_at (F := ⟨(rarr a :: rarr b :: pt q1 :: pt q4 :: pt q7 :: pt q10 :: iN .i64 16 :: u13 7 :: pt q27 :: iN .i64 16 :: iN .i64 16 :: .bool false :: u13 12 :: u13 13 :: u13 14 :: u13 15 :: u13 16 :: u13 17 :: u13 18 :: u13 19 :: u13 20 :: u13 21 :: u13 22 :: u13 23 :: u13 24 :: u13 25 :: u13 26 :: u13 27 :: u13 28 :: u13 29 :: u13 30 :: u13 31 :: u13 32 :: u13 33 :: u13 34 :: u13 35 :: u13 36 :: iN .i64 16 :: .bool false :: u30 39 :: u30 40 :: u30 41 :: u30 42 :: u30 43 :: u30 44 :: u30 45 :: u30 46 :: u30 47 :: u30 48 :: u30 49 :: u30 50 :: u30 51 :: .agg (ul (halves (wide a b 16))) :: rarr (num 65536 (halves (wide a b 16)) % P) :: List.replicate 0 un).toArray, []⟩) (by kernel_rfl) ?_
      refine wp_ret ?_
      repeat first | refine then_ret ?_ | refine block_ret ?_
      exact bodyPost_ret (v := rarr (num 65536 (halves (wide a b 16)) % P)) (res_cell (p := 4) (by kernel_rfl) (by kernel_rfl) (h42.get 2 rfl) Tryd.underlying30 rfl (info_rl _)) rfl ⟨by rw [mul_num a b ha hb], h42.old⟩
end Go.Proofs.YtbmfmamhidccbaaDoor
