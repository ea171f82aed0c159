/-
  The reference: products, the box, a block of a text.
-/
import Derived.Test.YthljhhhjdajfhaaA1
import Derived.Test.YthljhhhjdajfhaaR1
namespace Go.Proofs.Ythljhhhjdajfhaa
open Go.RowKit


set_option linter.unusedVariables false in
set_option maxRecDepth 100000 in
set_option maxHeartbeats 2000000 in
theorem product_any (a b : UInt8) (w : World) :
    Calls Try.prog 33 #[by8 a, by8 b] w fun e w' => e = .returned (by8 (pr a b)) ∧ Below w.heap.size w w' := by
  have H0 := HA.start w
  go_enter Try.func33, Try.ntmps33
  refine wp_seq ?_
  -- region 0
  refine wl_region ?_
  refine wl_val (by8 ((0 : UInt8))) (by kernel_rfl) (by kernel_rfl) ?_
  refine wl_nil ?_
  refine then_at (F := ⟨(by8 a :: by8 b :: un :: un :: by8 ((0 : UInt8)) :: List.replicate 24 un).toArray, []⟩) (by kernel_rfl) ?_
  refine wp_seq ?_
  -- region 1
  refine wl_region ?_
  refine wl_val (by8 ((0 : UInt8))) (by kernel_rfl) (by kernel_rfl) ?_
  refine wl_nil ?_
  refine then_at (F := ⟨(by8 a :: by8 b :: un :: un :: by8 ((0 : UInt8)) :: by8 ((0 : UInt8)) :: List.replicate 23 un).toArray, []⟩) (by kernel_rfl) ?_
  refine wp_seq ?_
  refine wp_seq ?_
  -- region 2
  refine wl_region ?_
  refine wl_val (iN .i64 0) (by kernel_rfl) (by kernel_rfl) ?_
  refine wl_nil ?_
  refine then_at (F := ⟨(by8 a :: by8 b :: un :: un :: by8 ((0 : UInt8)) :: by8 ((0 : UInt8)) :: iN .i64 0 :: List.replicate 22 un).toArray, []⟩) (by kernel_rfl) ?_
  refine wp_block ?_
  refine wp_count (fun k A w' => ∃ u1 : Nat → Value, A = ⟨(by8 (prA a k) :: by8 b :: un :: un :: by8 ((0 : UInt8)) :: by8 (prR a b k) :: iN .i64 k :: u1 7 :: u1 8 :: u1 9 :: u1 10 :: u1 11 :: u1 12 :: u1 13 :: u1 14 :: u1 15 :: u1 16 :: u1 17 :: u1 18 :: u1 19 :: u1 20 :: u1 21 :: u1 22 :: u1 23 :: u1 24 :: u1 25 :: u1 26 :: u1 27 :: List.replicate 1 un).toArray, []⟩ ∧ HA w [] w') 8 ?_ ?_ ?_
  · exact ⟨fun ii => (([(7, undef), (8, undef), (9, undef), (10, undef), (11, undef), (12, undef), (13, undef), (14, undef), (15, undef), (16, undef), (17, undef), (18, undef), (19, undef), (20, undef), (21, undef), (22, undef), (23, undef), (24, undef), (25, undef), (26, undef), (27, undef)] : List (Nat × Value)).find? (·.1 == ii)).elim undef (·.2), by kernel_rfl, H0⟩
  · rintro k hk _ w2 ⟨u1, rfl, h3⟩
    refine wp_seq ?_
    refine wp_seq ?_
    -- region 3
    refine wl_region ?_
    refine wl_val (iN .i64 k) (by kernel_rfl) (by kernel_rfl) ?_
    refine wl_val (.bool true) (by kernel_rfl) (run_lss (k := .i64) (a := k) (b := 8) (by kernel_rfl) (by kernel_rfl) true (decide_eq_true (by omega))) ?_
    refine wl_nil ?_
    refine then_at (F := ⟨(by8 (prA a k) :: by8 b :: un :: un :: by8 ((0 : UInt8)) :: by8 (prR a b k) :: iN .i64 k :: u1 7 :: iN .i64 k :: .bool true :: u1 10 :: u1 11 :: u1 12 :: u1 13 :: u1 14 :: u1 15 :: u1 16 :: u1 17 :: u1 18 :: u1 19 :: u1 20 :: u1 21 :: u1 22 :: u1 23 :: u1 24 :: u1 25 :: u1 26 :: u1 27 :: List.replicate 1 un).toArray, []⟩) (by kernel_rfl) ?_
    refine wp_cond_true (by kernel_rfl) ?_
    refine wp_skip ?_
    refine then_at (F := ⟨(by8 (prA a k) :: by8 b :: un :: un :: by8 ((0 : UInt8)) :: by8 (prR a b k) :: iN .i64 k :: u1 7 :: iN .i64 k :: .bool true :: u1 10 :: u1 11 :: u1 12 :: u1 13 :: u1 14 :: u1 15 :: u1 16 :: u1 17 :: u1 18 :: u1 19 :: u1 20 :: u1 21 :: u1 22 :: u1 23 :: u1 24 :: u1 25 :: u1 26 :: u1 27 :: List.replicate 1 un).toArray, []⟩) (by kernel_rfl) ?_
    refine wp_seq ?_
    refine wp_block ?_
    refine wp_seq ?_
    refine wp_seq ?_
    by_cases hc : UInt8.ofNat (b.toNat / 2 ^ k) &&& 1 = 1
    · -- region 5
      refine wl_region ?_
      refine wl_val (by8 b) (by kernel_rfl) (by kernel_rfl) ?_
      refine wl_val (iN .i64 k) (by kernel_rfl) (by kernel_rfl) ?_
      refine wl_val (by8 (UInt8.ofNat (b.toNat / 2 ^ k))) (by kernel_rfl) (run_shrb (k2 := .i64) (a := b) (m := k) (by kernel_rfl) (by kernel_rfl) (by omega)) ?_
      refine wl_val (by8 ((UInt8.ofNat (b.toNat / 2 ^ k)) &&& ((1 : UInt8)))) (by kernel_rfl) (run_andb (a := UInt8.ofNat (b.toNat / 2 ^ k)) (b := (1 : UInt8)) (by kernel_rfl) (by kernel_rfl)) ?_
      refine wl_val (.bool true) (by kernel_rfl) (run_eqi (k := .u8) (a := ((UInt8.ofNat (b.toNat / 2 ^ k)) &&& ((1 : UInt8))).toNat) (b := ((1 : UInt8)).toNat) (by kernel_rfl) (by kernel_rfl) true (decide_eq_true (congrArg UInt8.toNat hc))) ?_
      refine wl_nil ?_
      refine then_at (F := ⟨(by8 (prA a k) :: by8 b :: un :: un :: by8 ((0 : UInt8)) :: by8 (prR a b k) :: iN .i64 k :: u1 7 :: iN .i64 k :: .bool true :: u1 10 :: u1 11 :: by8 b :: iN .i64 k :: by8 (UInt8.ofNat (b.toNat / 2 ^ k)) :: by8 ((UInt8.ofNat (b.toNat / 2 ^ k)) &&& ((1 : UInt8))) :: .bool true :: u1 17 :: u1 18 :: u1 19 :: u1 20 :: u1 21 :: u1 22 :: u1 23 :: u1 24 :: u1 25 :: u1 26 :: u1 27 :: List.replicate 1 un).toArray, []⟩) (by kernel_rfl) ?_
      refine wp_cond_true (by kernel_rfl) ?_
      -- region 6
      refine wl_region ?_
      refine wl_val (by8 (prR a b k)) (by kernel_rfl) (by kernel_rfl) ?_
      refine wl_val (by8 (prA a k)) (by kernel_rfl) (by kernel_rfl) ?_
      refine wl_val (by8 ((prR a b k) ^^^ (prA a k))) (by kernel_rfl) (run_xorb (a := prR a b k) (b := prA a k) (by kernel_rfl) (by kernel_rfl)) ?_
      refine wl_val (by8 ((prR a b k) ^^^ (prA a k))) (by kernel_rfl) (by kernel_rfl) ?_
      refine wl_nil ?_
      refine then_at (F := ⟨(by8 (prA a k) :: by8 b :: un :: un :: by8 ((0 : UInt8)) :: by8 ((prR a b k) ^^^ (prA a k)) :: iN .i64 k :: u1 7 :: iN .i64 k :: .bool true :: u1 10 :: u1 11 :: by8 b :: iN .i64 k :: by8 (UInt8.ofNat (b.toNat / 2 ^ k)) :: by8 ((UInt8.ofNat (b.toNat / 2 ^ k)) &&& ((1 : UInt8))) :: .bool true :: by8 (prR a b k) :: by8 (prA a k) :: by8 ((prR a b k) ^^^ (prA a k)) :: u1 20 :: u1 21 :: u1 22 :: u1 23 :: u1 24 :: u1 25 :: u1 26 :: u1 27 :: List.replicate 1 un).toArray, []⟩) (by kernel_rfl) ?_
      refine wp_seq ?_
      -- region 7
      refine wl_region ?_
      refine wl_val (by8 (prA a k)) (by kernel_rfl) (by kernel_rfl) ?_
      refine wl_val (by8 (UInt8.ofNat ((prA a k).toNat / 2 ^ 7))) (by kernel_rfl) (run_shrb (k2 := .u64) (a := prA a k) (m := 7) (by kernel_rfl) (by kernel_rfl) (by decide)) ?_
      refine wl_val (by8 (UInt8.ofNat ((prA a k).toNat / 2 ^ 7))) (by kernel_rfl) (by kernel_rfl) ?_
      refine wl_nil ?_
      refine then_at (F := ⟨(by8 (prA a k) :: by8 b :: un :: un :: by8 ((0 : UInt8)) :: by8 ((prR a b k) ^^^ (prA a k)) :: iN .i64 k :: by8 (UInt8.ofNat ((prA a k).toNat / 2 ^ 7)) :: iN .i64 k :: .bool true :: u1 10 :: u1 11 :: by8 b :: iN .i64 k :: by8 (UInt8.ofNat (b.toNat / 2 ^ k)) :: by8 ((UInt8.ofNat (b.toNat / 2 ^ k)) &&& ((1 : UInt8))) :: .bool true :: by8 (prR a b k) :: by8 (prA a k) :: by8 ((prR a b k) ^^^ (prA a k)) :: by8 (prA a k) :: by8 (UInt8.ofNat ((prA a k).toNat / 2 ^ 7)) :: u1 22 :: u1 23 :: u1 24 :: u1 25 :: u1 26 :: u1 27 :: List.replicate 1 un).toArray, []⟩) (by kernel_rfl) ?_
      refine wp_seq ?_
      -- region 8
      refine wl_region ?_
      refine wl_val (by8 (prA a k)) (by kernel_rfl) (by kernel_rfl) ?_
      refine wl_val (by8 (UInt8.ofNat ((prA a k).toNat * 2 ^ 1))) (by kernel_rfl) (run_shlb (k2 := .u64) (a := prA a k) (m := 1) (by kernel_rfl) (by kernel_rfl) (by decide)) ?_
      refine wl_val (by8 (UInt8.ofNat ((prA a k).toNat * 2 ^ 1))) (by kernel_rfl) (by kernel_rfl) ?_
      refine wl_nil ?_
      refine then_at (F := ⟨(by8 (UInt8.ofNat ((prA a k).toNat * 2 ^ 1)) :: by8 b :: un :: un :: by8 ((0 : UInt8)) :: by8 ((prR a b k) ^^^ (prA a k)) :: iN .i64 k :: by8 (UInt8.ofNat ((prA a k).toNat / 2 ^ 7)) :: iN .i64 k :: .bool true :: u1 10 :: u1 11 :: by8 b :: iN .i64 k :: by8 (UInt8.ofNat (b.toNat / 2 ^ k)) :: by8 ((UInt8.ofNat (b.toNat / 2 ^ k)) &&& ((1 : UInt8))) :: .bool true :: by8 (prR a b k) :: by8 (prA a k) :: by8 ((prR a b k) ^^^ (prA a k)) :: by8 (prA a k) :: by8 (UInt8.ofNat ((prA a k).toNat / 2 ^ 7)) :: by8 (prA a k) :: by8 (UInt8.ofNat ((prA a k).toNat * 2 ^ 1)) :: u1 24 :: u1 25 :: u1 26 :: u1 27 :: List.replicate 1 un).toArray, []⟩) (by kernel_rfl) ?_
      refine wp_seq ?_
      by_cases hd : UInt8.ofNat ((prA a k).toNat / 2 ^ 7) = 1
      · -- region 9
        refine wl_region ?_
        refine wl_val (by8 (UInt8.ofNat ((prA a k).toNat / 2 ^ 7))) (by kernel_rfl) (by kernel_rfl) ?_
        refine wl_val (.bool true) (by kernel_rfl) (run_eqi (k := .u8) (a := (UInt8.ofNat ((prA a k).toNat / 2 ^ 7)).toNat) (b := ((1 : UInt8)).toNat) (by kernel_rfl) (by kernel_rfl) true (decide_eq_true (congrArg UInt8.toNat hd))) ?_
        refine wl_nil ?_
        refine then_at (F := ⟨(by8 (UInt8.ofNat ((prA a k).toNat * 2 ^ 1)) :: by8 b :: un :: un :: by8 ((0 : UInt8)) :: by8 ((prR a b k) ^^^ (prA a k)) :: iN .i64 k :: by8 (UInt8.ofNat ((prA a k).toNat / 2 ^ 7)) :: iN .i64 k :: .bool true :: u1 10 :: u1 11 :: by8 b :: iN .i64 k :: by8 (UInt8.ofNat (b.toNat / 2 ^ k)) :: by8 ((UInt8.ofNat (b.toNat / 2 ^ k)) &&& ((1 : UInt8))) :: .bool true :: by8 (prR a b k) :: by8 (prA a k) :: by8 ((prR a b k) ^^^ (prA a k)) :: by8 (prA a k) :: by8 (UInt8.ofNat ((prA a k).toNat / 2 ^ 7)) :: by8 (prA a k) :: by8 (UInt8.ofNat ((prA a k).toNat * 2 ^ 1)) :: by8 (UInt8.ofNat ((prA a k).toNat / 2 ^ 7)) :: .bool true :: u1 26 :: u1 27 :: List.replicate 1 un).toArray, []⟩) (by kernel_rfl) ?_
        refine wp_cond_true (by kernel_rfl) ?_
        -- region 10
        refine wl_region ?_
        refine wl_val (by8 (UInt8.ofNat ((prA a k).toNat * 2 ^ 1))) (by kernel_rfl) (by kernel_rfl) ?_
        refine wl_val (by8 ((UInt8.ofNat ((prA a k).toNat * 2 ^ 1)) ^^^ ((27 : UInt8)))) (by kernel_rfl) (run_xorb (a := UInt8.ofNat ((prA a k).toNat * 2 ^ 1)) (b := (27 : UInt8)) (by kernel_rfl) (by kernel_rfl)) ?_
        refine wl_val (by8 ((UInt8.ofNat ((prA a k).toNat * 2 ^ 1)) ^^^ ((27 : UInt8)))) (by kernel_rfl) (by kernel_rfl) ?_
        refine wl_nil ?_
        refine block_normal ?_
        refine then_at (F := ⟨(by8 ((UInt8.ofNat ((prA a k).toNat * 2 ^ 1)) ^^^ ((27 : UInt8))) :: by8 b :: un :: un :: by8 ((0 : UInt8)) :: by8 ((prR a b k) ^^^ (prA a k)) :: iN .i64 k :: by8 (UInt8.ofNat ((prA a k).toNat / 2 ^ 7)) :: iN .i64 k :: .bool true :: u1 10 :: u1 11 :: by8 b :: iN .i64 k :: by8 (UInt8.ofNat (b.toNat / 2 ^ k)) :: by8 ((UInt8.ofNat (b.toNat / 2 ^ k)) &&& ((1 : UInt8))) :: .bool true :: by8 (prR a b k) :: by8 (prA a k) :: by8 ((prR a b k) ^^^ (prA a k)) :: by8 (prA a k) :: by8 (UInt8.ofNat ((prA a k).toNat / 2 ^ 7)) :: by8 (prA a k) :: by8 (UInt8.ofNat ((prA a k).toNat * 2 ^ 1)) :: by8 (UInt8.ofNat ((prA a k).toNat / 2 ^ 7)) :: .bool true :: by8 (UInt8.ofNat ((prA a k).toNat * 2 ^ 1)) :: by8 ((UInt8.ofNat ((prA a k).toNat * 2 ^ 1)) ^^^ ((27 : UInt8))) :: List.replicate 1 un).toArray, []⟩) (by kernel_rfl) ?_
        -- region 4
        refine wl_region ?_
        refine wl_val (iN .i64 k) (by kernel_rfl) (by kernel_rfl) ?_
        refine wl_val (iN .i64 (k + 1)) (by kernel_rfl) (run_add (k := .i64) (a := k) (b := 1) (by kernel_rfl) (by kernel_rfl) (by simp only [top]; omega)) ?_
        refine wl_val (iN .i64 (k + 1)) (by kernel_rfl) (by kernel_rfl) ?_
        refine wl_nil ?_
        exact then_I ⟨fun ii => (([(7, by8 (UInt8.ofNat ((prA a k).toNat / 2 ^ 7))), (8, iN .i64 k), (9, .bool true), (10, iN .i64 k), (11, iN .i64 (k + 1)), (12, by8 b), (13, iN .i64 k), (14, by8 (UInt8.ofNat (b.toNat / 2 ^ k))), (15, by8 ((UInt8.ofNat (b.toNat / 2 ^ k)) &&& ((1 : UInt8)))), (16, .bool true), (17, by8 (prR a b k)), (18, by8 (prA a k)), (19, by8 ((prR a b k) ^^^ (prA a k))), (20, by8 (prA a k)), (21, by8 (UInt8.ofNat ((prA a k).toNat / 2 ^ 7))), (22, by8 (prA a k)), (23, by8 (UInt8.ofNat ((prA a k).toNat * 2 ^ 1))), (24, by8 (UInt8.ofNat ((prA a k).toNat / 2 ^ 7))), (25, .bool true), (26, by8 (UInt8.ofNat ((prA a k).toNat * 2 ^ 1))), (27, by8 ((UInt8.ofNat ((prA a k).toNat * 2 ^ 1)) ^^^ ((27 : UInt8))))] : List (Nat × Value)).find? (·.1 == ii)).elim undef (·.2), (by rw [prR_yes a b k hc, prA_yes a k hd]; kernel_rfl), h3⟩
      · -- region 9
        refine wl_region ?_
        refine wl_val (by8 (UInt8.ofNat ((prA a k).toNat / 2 ^ 7))) (by kernel_rfl) (by kernel_rfl) ?_
        refine wl_val (.bool false) (by kernel_rfl) (run_eqi (k := .u8) (a := (UInt8.ofNat ((prA a k).toNat / 2 ^ 7)).toNat) (b := ((1 : UInt8)).toNat) (by kernel_rfl) (by kernel_rfl) false (decide_eq_false (fun h => hd (UInt8.toNat_inj.1 h)))) ?_
        refine wl_nil ?_
        refine then_at (F := ⟨(by8 (UInt8.ofNat ((prA a k).toNat * 2 ^ 1)) :: by8 b :: un :: un :: by8 ((0 : UInt8)) :: by8 ((prR a b k) ^^^ (prA a k)) :: iN .i64 k :: by8 (UInt8.ofNat ((prA a k).toNat / 2 ^ 7)) :: iN .i64 k :: .bool true :: u1 10 :: u1 11 :: by8 b :: iN .i64 k :: by8 (UInt8.ofNat (b.toNat / 2 ^ k)) :: by8 ((UInt8.ofNat (b.toNat / 2 ^ k)) &&& ((1 : UInt8))) :: .bool true :: by8 (prR a b k) :: by8 (prA a k) :: by8 ((prR a b k) ^^^ (prA a k)) :: by8 (prA a k) :: by8 (UInt8.ofNat ((prA a k).toNat / 2 ^ 7)) :: by8 (prA a k) :: by8 (UInt8.ofNat ((prA a k).toNat * 2 ^ 1)) :: by8 (UInt8.ofNat ((prA a k).toNat / 2 ^ 7)) :: .bool false :: u1 26 :: u1 27 :: List.replicate 1 un).toArray, []⟩) (by kernel_rfl) ?_
        refine wp_cond_false (by kernel_rfl) ?_
        refine wp_skip ?_
        refine block_normal ?_
        refine then_at (F := ⟨(by8 (UInt8.ofNat ((prA a k).toNat * 2 ^ 1)) :: by8 b :: un :: un :: by8 ((0 : UInt8)) :: by8 ((prR a b k) ^^^ (prA a k)) :: iN .i64 k :: by8 (UInt8.ofNat ((prA a k).toNat / 2 ^ 7)) :: iN .i64 k :: .bool true :: u1 10 :: u1 11 :: by8 b :: iN .i64 k :: by8 (UInt8.ofNat (b.toNat / 2 ^ k)) :: by8 ((UInt8.ofNat (b.toNat / 2 ^ k)) &&& ((1 : UInt8))) :: .bool true :: by8 (prR a b k) :: by8 (prA a k) :: by8 ((prR a b k) ^^^ (prA a k)) :: by8 (prA a k) :: by8 (UInt8.ofNat ((prA a k).toNat / 2 ^ 7)) :: by8 (prA a k) :: by8 (UInt8.ofNat ((prA a k).toNat * 2 ^ 1)) :: by8 (UInt8.ofNat ((prA a k).toNat / 2 ^ 7)) :: .bool false :: u1 26 :: u1 27 :: List.replicate 1 un).toArray, []⟩) (by kernel_rfl) ?_
        -- region 4
        refine wl_region ?_
        refine wl_val (iN .i64 k) (by kernel_rfl) (by kernel_rfl) ?_
        refine wl_val (iN .i64 (k + 1)) (by kernel_rfl) (run_add (k := .i64) (a := k) (b := 1) (by kernel_rfl) (by kernel_rfl) (by simp only [top]; omega)) ?_
        refine wl_val (iN .i64 (k + 1)) (by kernel_rfl) (by kernel_rfl) ?_
        refine wl_nil ?_
        exact then_I ⟨fun ii => (([(7, by8 (UInt8.ofNat ((prA a k).toNat / 2 ^ 7))), (8, iN .i64 k), (9, .bool true), (10, iN .i64 k), (11, iN .i64 (k + 1)), (12, by8 b), (13, iN .i64 k), (14, by8 (UInt8.ofNat (b.toNat / 2 ^ k))), (15, by8 ((UInt8.ofNat (b.toNat / 2 ^ k)) &&& ((1 : UInt8)))), (16, .bool true), (17, by8 (prR a b k)), (18, by8 (prA a k)), (19, by8 ((prR a b k) ^^^ (prA a k))), (20, by8 (prA a k)), (21, by8 (UInt8.ofNat ((prA a k).toNat / 2 ^ 7))), (22, by8 (prA a k)), (23, by8 (UInt8.ofNat ((prA a k).toNat * 2 ^ 1))), (24, by8 (UInt8.ofNat ((prA a k).toNat / 2 ^ 7))), (25, .bool false), (26, u1 26), (27, u1 27)] : List (Nat × Value)).find? (·.1 == ii)).elim undef (·.2), (by rw [prR_yes a b k hc, prA_no a k hd]; kernel_rfl), h3⟩
    · -- region 5
      refine wl_region ?_
      refine wl_val (by8 b) (by kernel_rfl) (by kernel_rfl) ?_
      refine wl_val (iN .i64 k) (by kernel_rfl) (by kernel_rfl) ?_
      refine wl_val (by8 (UInt8.ofNat (b.toNat / 2 ^ k))) (by kernel_rfl) (run_shrb (k2 := .i64) (a := b) (m := k) (by kernel_rfl) (by kernel_rfl) (by omega)) ?_
      refine wl_val (by8 ((UInt8.ofNat (b.toNat / 2 ^ k)) &&& ((1 : UInt8)))) (by kernel_rfl) (run_andb (a := UInt8.ofNat (b.toNat / 2 ^ k)) (b := (1 : UInt8)) (by kernel_rfl) (by kernel_rfl)) ?_
      refine wl_val (.bool false) (by kernel_rfl) (run_eqi (k := .u8) (a := ((UInt8.ofNat (b.toNat / 2 ^ k)) &&& ((1 : UInt8))).toNat) (b := ((1 : UInt8)).toNat) (by kernel_rfl) (by kernel_rfl) false (decide_eq_false (fun h => hc (UInt8.toNat_inj.1 h)))) ?_
      refine wl_nil ?_
      refine then_at (F := ⟨(by8 (prA a k) :: by8 b :: un :: un :: by8 ((0 : UInt8)) :: by8 (prR a b k) :: iN .i64 k :: u1 7 :: iN .i64 k :: .bool true :: u1 10 :: u1 11 :: by8 b :: iN .i64 k :: by8 (UInt8.ofNat (b.toNat / 2 ^ k)) :: by8 ((UInt8.ofNat (b.toNat / 2 ^ k)) &&& ((1 : UInt8))) :: .bool false :: u1 17 :: u1 18 :: u1 19 :: u1 20 :: u1 21 :: u1 22 :: u1 23 :: u1 24 :: u1 25 :: u1 26 :: u1 27 :: List.replicate 1 un).toArray, []⟩) (by kernel_rfl) ?_
      refine wp_cond_false (by kernel_rfl) ?_
      refine wp_skip ?_
      refine then_at (F := ⟨(by8 (prA a k) :: by8 b :: un :: un :: by8 ((0 : UInt8)) :: by8 (prR a b k) :: iN .i64 k :: u1 7 :: iN .i64 k :: .bool true :: u1 10 :: u1 11 :: by8 b :: iN .i64 k :: by8 (UInt8.ofNat (b.toNat / 2 ^ k)) :: by8 ((UInt8.ofNat (b.toNat / 2 ^ k)) &&& ((1 : UInt8))) :: .bool false :: u1 17 :: u1 18 :: u1 19 :: u1 20 :: u1 21 :: u1 22 :: u1 23 :: u1 24 :: u1 25 :: u1 26 :: u1 27 :: List.replicate 1 un).toArray, []⟩) (by kernel_rfl) ?_
      refine wp_seq ?_
      -- region 7
      refine wl_region ?_
      refine wl_val (by8 (prA a k)) (by kernel_rfl) (by kernel_rfl) ?_
      refine wl_val (by8 (UInt8.ofNat ((prA a k).toNat / 2 ^ 7))) (by kernel_rfl) (run_shrb (k2 := .u64) (a := prA a k) (m := 7) (by kernel_rfl) (by kernel_rfl) (by decide)) ?_
      refine wl_val (by8 (UInt8.ofNat ((prA a k).toNat / 2 ^ 7))) (by kernel_rfl) (by kernel_rfl) ?_
      refine wl_nil ?_
      refine then_at (F := ⟨(by8 (prA a k) :: by8 b :: un :: un :: by8 ((0 : UInt8)) :: by8 (prR a b k) :: iN .i64 k :: by8 (UInt8.ofNat ((prA a k).toNat / 2 ^ 7)) :: iN .i64 k :: .bool true :: u1 10 :: u1 11 :: by8 b :: iN .i64 k :: by8 (UInt8.ofNat (b.toNat / 2 ^ k)) :: by8 ((UInt8.ofNat (b.toNat / 2 ^ k)) &&& ((1 : UInt8))) :: .bool false :: u1 17 :: u1 18 :: u1 19 :: by8 (prA a k) :: by8 (UInt8.ofNat ((prA a k).toNat / 2 ^ 7)) :: u1 22 :: u1 23 :: u1 24 :: u1 25 :: u1 26 :: u1 27 :: List.replicate 1 un).toArray, []⟩) (by kernel_rfl) ?_
      refine wp_seq ?_
      -- region 8
      refine wl_region ?_
      refine wl_val (by8 (prA a k)) (by kernel_rfl) (by kernel_rfl) ?_
      refine wl_val (by8 (UInt8.ofNat ((prA a k).toNat * 2 ^ 1))) (by kernel_rfl) (run_shlb (k2 := .u64) (a := prA a k) (m := 1) (by kernel_rfl) (by kernel_rfl) (by decide)) ?_
      refine wl_val (by8 (UInt8.ofNat ((prA a k).toNat * 2 ^ 1))) (by kernel_rfl) (by kernel_rfl) ?_
      refine wl_nil ?_
      refine then_at (F := ⟨(by8 (UInt8.ofNat ((prA a k).toNat * 2 ^ 1)) :: by8 b :: un :: un :: by8 ((0 : UInt8)) :: by8 (prR a b k) :: iN .i64 k :: by8 (UInt8.ofNat ((prA a k).toNat / 2 ^ 7)) :: iN .i64 k :: .bool true :: u1 10 :: u1 11 :: by8 b :: iN .i64 k :: by8 (UInt8.ofNat (b.toNat / 2 ^ k)) :: by8 ((UInt8.ofNat (b.toNat / 2 ^ k)) &&& ((1 : UInt8))) :: .bool false :: u1 17 :: u1 18 :: u1 19 :: by8 (prA a k) :: by8 (UInt8.ofNat ((prA a k).toNat / 2 ^ 7)) :: by8 (prA a k) :: by8 (UInt8.ofNat ((prA a k).toNat * 2 ^ 1)) :: u1 24 :: u1 25 :: u1 26 :: u1 27 :: List.replicate 1 un).toArray, []⟩) (by kernel_rfl) ?_
      refine wp_seq ?_
      by_cases hd : UInt8.ofNat ((prA a k).toNat / 2 ^ 7) = 1
      · -- region 9
        refine wl_region ?_
        refine wl_val (by8 (UInt8.ofNat ((prA a k).toNat / 2 ^ 7))) (by kernel_rfl) (by kernel_rfl) ?_
        refine wl_val (.bool true) (by kernel_rfl) (run_eqi (k := .u8) (a := (UInt8.ofNat ((prA a k).toNat / 2 ^ 7)).toNat) (b := ((1 : UInt8)).toNat) (by kernel_rfl) (by kernel_rfl) true (decide_eq_true (congrArg UInt8.toNat hd))) ?_
        refine wl_nil ?_
        refine then_at (F := ⟨(by8 (UInt8.ofNat ((prA a k).toNat * 2 ^ 1)) :: by8 b :: un :: un :: by8 ((0 : UInt8)) :: by8 (prR a b k) :: iN .i64 k :: by8 (UInt8.ofNat ((prA a k).toNat / 2 ^ 7)) :: iN .i64 k :: .bool true :: u1 10 :: u1 11 :: by8 b :: iN .i64 k :: by8 (UInt8.ofNat (b.toNat / 2 ^ k)) :: by8 ((UInt8.ofNat (b.toNat / 2 ^ k)) &&& ((1 : UInt8))) :: .bool false :: u1 17 :: u1 18 :: u1 19 :: by8 (prA a k) :: by8 (UInt8.ofNat ((prA a k).toNat / 2 ^ 7)) :: by8 (prA a k) :: by8 (UInt8.ofNat ((prA a k).toNat * 2 ^ 1)) :: by8 (UInt8.ofNat ((prA a k).toNat / 2 ^ 7)) :: .bool true :: u1 26 :: u1 27 :: List.replicate 1 un).toArray, []⟩) (by kernel_rfl) ?_
        refine wp_cond_true (by kernel_rfl) ?_
        -- region 10
        refine wl_region ?_
        refine wl_val (by8 (UInt8.ofNat ((prA a k).toNat * 2 ^ 1))) (by kernel_rfl) (by kernel_rfl) ?_
        refine wl_val (by8 ((UInt8.ofNat ((prA a k).toNat * 2 ^ 1)) ^^^ ((27 : UInt8)))) (by kernel_rfl) (run_xorb (a := UInt8.ofNat ((prA a k).toNat * 2 ^ 1)) (b := (27 : UInt8)) (by kernel_rfl) (by kernel_rfl)) ?_
        refine wl_val (by8 ((UInt8.ofNat ((prA a k).toNat * 2 ^ 1)) ^^^ ((27 : UInt8)))) (by kernel_rfl) (by kernel_rfl) ?_
        refine wl_nil ?_
        refine block_normal ?_
        refine then_at (F := ⟨(by8 ((UInt8.ofNat ((prA a k).toNat * 2 ^ 1)) ^^^ ((27 : UInt8))) :: by8 b :: un :: un :: by8 ((0 : UInt8)) :: by8 (prR a b k) :: iN .i64 k :: by8 (UInt8.ofNat ((prA a k).toNat / 2 ^ 7)) :: iN .i64 k :: .bool true :: u1 10 :: u1 11 :: by8 b :: iN .i64 k :: by8 (UInt8.ofNat (b.toNat / 2 ^ k)) :: by8 ((UInt8.ofNat (b.toNat / 2 ^ k)) &&& ((1 : UInt8))) :: .bool false :: u1 17 :: u1 18 :: u1 19 :: by8 (prA a k) :: by8 (UInt8.ofNat ((prA a k).toNat / 2 ^ 7)) :: by8 (prA a k) :: by8 (UInt8.ofNat ((prA a k).toNat * 2 ^ 1)) :: by8 (UInt8.ofNat ((prA a k).toNat / 2 ^ 7)) :: .bool true :: by8 (UInt8.ofNat ((prA a k).toNat * 2 ^ 1)) :: by8 ((UInt8.ofNat ((prA a k).toNat * 2 ^ 1)) ^^^ ((27 : UInt8))) :: List.replicate 1 un).toArray, []⟩) (by kernel_rfl) ?_
        -- region 4
        refine wl_region ?_
        refine wl_val (iN .i64 k) (by kernel_rfl) (by kernel_rfl) ?_
        refine wl_val (iN .i64 (k + 1)) (by kernel_rfl) (run_add (k := .i64) (a := k) (b := 1) (by kernel_rfl) (by kernel_rfl) (by simp only [top]; omega)) ?_
        refine wl_val (iN .i64 (k + 1)) (by kernel_rfl) (by kernel_rfl) ?_
        refine wl_nil ?_
        exact then_I ⟨fun ii => (([(7, by8 (UInt8.ofNat ((prA a k).toNat / 2 ^ 7))), (8, iN .i64 k), (9, .bool true), (10, iN .i64 k), (11, iN .i64 (k + 1)), (12, by8 b), (13, iN .i64 k), (14, by8 (UInt8.ofNat (b.toNat / 2 ^ k))), (15, by8 ((UInt8.ofNat (b.toNat / 2 ^ k)) &&& ((1 : UInt8)))), (16, .bool false), (17, u1 17), (18, u1 18), (19, u1 19), (20, by8 (prA a k)), (21, by8 (UInt8.ofNat ((prA a k).toNat / 2 ^ 7))), (22, by8 (prA a k)), (23, by8 (UInt8.ofNat ((prA a k).toNat * 2 ^ 1))), (24, by8 (UInt8.ofNat ((prA a k).toNat / 2 ^ 7))), (25, .bool true), (26, by8 (UInt8.ofNat ((prA a k).toNat * 2 ^ 1))), (27, by8 ((UInt8.ofNat ((prA a k).toNat * 2 ^ 1)) ^^^ ((27 : UInt8))))] : List (Nat × Value)).find? (·.1 == ii)).elim undef (·.2), (by rw [prR_no a b k hc, prA_yes a k hd]; kernel_rfl), h3⟩
      · -- region 9
        refine wl_region ?_
        refine wl_val (by8 (UInt8.ofNat ((prA a k).toNat / 2 ^ 7))) (by kernel_rfl) (by kernel_rfl) ?_
        refine wl_val (.bool false) (by kernel_rfl) (run_eqi (k := .u8) (a := (UInt8.ofNat ((prA a k).toNat / 2 ^ 7)).toNat) (b := ((1 : UInt8)).toNat) (by kernel_rfl) (by kernel_rfl) false (decide_eq_false (fun h => hd (UInt8.toNat_inj.1 h)))) ?_
        refine wl_nil ?_
        refine then_at (F := ⟨(by8 (UInt8.ofNat ((prA a k).toNat * 2 ^ 1)) :: by8 b :: un :: un :: by8 ((0 : UInt8)) :: by8 (prR a b k) :: iN .i64 k :: by8 (UInt8.ofNat ((prA a k).toNat / 2 ^ 7)) :: iN .i64 k :: .bool true :: u1 10 :: u1 11 :: by8 b :: iN .i64 k :: by8 (UInt8.ofNat (b.toNat / 2 ^ k)) :: by8 ((UInt8.ofNat (b.toNat / 2 ^ k)) &&& ((1 : UInt8))) :: .bool false :: u1 17 :: u1 18 :: u1 19 :: by8 (prA a k) :: by8 (UInt8.ofNat ((prA a k).toNat / 2 ^ 7)) :: by8 (prA a k) :: by8 (UInt8.ofNat ((prA a k).toNat * 2 ^ 1)) :: by8 (UInt8.ofNat ((prA a k).toNat / 2 ^ 7)) :: .bool false :: u1 26 :: u1 27 :: List.replicate 1 un).toArray, []⟩) (by kernel_rfl) ?_
        refine wp_cond_false (by kernel_rfl) ?_
        refine wp_skip ?_
        refine block_normal ?_
        refine then_at (F := ⟨(by8 (UInt8.ofNat ((prA a k).toNat * 2 ^ 1)) :: by8 b :: un :: un :: by8 ((0 : UInt8)) :: by8 (prR a b k) :: iN .i64 k :: by8 (UInt8.ofNat ((prA a k).toNat / 2 ^ 7)) :: iN .i64 k :: .bool true :: u1 10 :: u1 11 :: by8 b :: iN .i64 k :: by8 (UInt8.ofNat (b.toNat / 2 ^ k)) :: by8 ((UInt8.ofNat (b.toNat / 2 ^ k)) &&& ((1 : UInt8))) :: .bool false :: u1 17 :: u1 18 :: u1 19 :: by8 (prA a k) :: by8 (UInt8.ofNat ((prA a k).toNat / 2 ^ 7)) :: by8 (prA a k) :: by8 (UInt8.ofNat ((prA a k).toNat * 2 ^ 1)) :: by8 (UInt8.ofNat ((prA a k).toNat / 2 ^ 7)) :: .bool false :: u1 26 :: u1 27 :: List.replicate 1 un).toArray, []⟩) (by kernel_rfl) ?_
        -- region 4
        refine wl_region ?_
        refine wl_val (iN .i64 k) (by kernel_rfl) (by kernel_rfl) ?_
        refine wl_val (iN .i64 (k + 1)) (by kernel_rfl) (run_add (k := .i64) (a := k) (b := 1) (by kernel_rfl) (by kernel_rfl) (by simp only [top]; omega)) ?_
        refine wl_val (iN .i64 (k + 1)) (by kernel_rfl) (by kernel_rfl) ?_
        refine wl_nil ?_
        exact then_I ⟨fun ii => (([(7, by8 (UInt8.ofNat ((prA a k).toNat / 2 ^ 7))), (8, iN .i64 k), (9, .bool true), (10, iN .i64 k), (11, iN .i64 (k + 1)), (12, by8 b), (13, iN .i64 k), (14, by8 (UInt8.ofNat (b.toNat / 2 ^ k))), (15, by8 ((UInt8.ofNat (b.toNat / 2 ^ k)) &&& ((1 : UInt8)))), (16, .bool false), (17, u1 17), (18, u1 18), (19, u1 19), (20, by8 (prA a k)), (21, by8 (UInt8.ofNat ((prA a k).toNat / 2 ^ 7))), (22, by8 (prA a k)), (23, by8 (UInt8.ofNat ((prA a k).toNat * 2 ^ 1))), (24, by8 (UInt8.ofNat ((prA a k).toNat / 2 ^ 7))), (25, .bool false), (26, u1 26), (27, u1 27)] : List (Nat × Value)).find? (·.1 == ii)).elim undef (·.2), (by rw [prR_no a b k hc, prA_no a k hd]; kernel_rfl), h3⟩
  · rintro _ w4 ⟨u1, rfl, h5⟩
    refine wp_seq ?_
    refine wp_seq ?_
    -- region 3
    refine wl_region ?_
    refine wl_val (iN .i64 8) (by kernel_rfl) (by kernel_rfl) ?_
    refine wl_val (.bool false) (by kernel_rfl) (run_lss (k := .i64) (a := 8) (b := 8) (by kernel_rfl) (by kernel_rfl) false (by decide)) ?_
    refine wl_nil ?_
    refine then_at (F := ⟨(by8 (prA a 8) :: by8 b :: un :: un :: by8 ((0 : UInt8)) :: by8 (prR a b 8) :: iN .i64 8 :: u1 7 :: iN .i64 8 :: .bool false :: u1 10 :: u1 11 :: u1 12 :: u1 13 :: u1 14 :: u1 15 :: u1 16 :: u1 17 :: u1 18 :: u1 19 :: u1 20 :: u1 21 :: u1 22 :: u1 23 :: u1 24 :: u1 25 :: u1 26 :: u1 27 :: List.replicate 1 un).toArray, []⟩) (by kernel_rfl) ?_
    refine wp_cond_false (by kernel_rfl) ?_
    refine wp_exit ?_
    repeat first | refine then_exit ?_ | refine block_exit ?_ | refine block_exit_ne (by decide) ?_
    refine then_at (F := ⟨(by8 (prA a 8) :: by8 b :: un :: un :: by8 ((0 : UInt8)) :: by8 (prR a b 8) :: iN .i64 8 :: u1 7 :: iN .i64 8 :: .bool false :: u1 10 :: u1 11 :: u1 12 :: u1 13 :: u1 14 :: u1 15 :: u1 16 :: u1 17 :: u1 18 :: u1 19 :: u1 20 :: u1 21 :: u1 22 :: u1 23 :: u1 24 :: u1 25 :: u1 26 :: u1 27 :: List.replicate 1 un).toArray, []⟩) (by kernel_rfl) ?_
    refine wp_seq ?_
    -- region 11
    refine wl_region ?_
    refine wl_val (by8 (prR a b 8)) (by kernel_rfl) (by kernel_rfl) ?_
    refine wl_val (by8 (prR a b 8)) (by kernel_rfl) (by kernel_rfl) ?_
    refine wl_nil ?_
    refine then_at (F := ⟨(by8 (prA a 8) :: by8 b :: un :: un :: by8 (prR a b 8) :: by8 (prR a b 8) :: iN .i64 8 :: u1 7 :: iN .i64 8 :: .bool false :: u1 10 :: u1 11 :: u1 12 :: u1 13 :: u1 14 :: u1 15 :: u1 16 :: u1 17 :: u1 18 :: u1 19 :: u1 20 :: u1 21 :: u1 22 :: u1 23 :: u1 24 :: u1 25 :: u1 26 :: u1 27 :: by8 (prR a b 8) :: List.replicate 0 un).toArray, []⟩) (by kernel_rfl) ?_
    refine wp_ret ?_
    repeat first | refine then_ret ?_ | refine block_ret ?_
    exact bodyPost_ret (v := by8 (pr a b)) (by kernel_rfl) rfl ⟨rfl, h5.old⟩
theorem bb_len (k : Nat) (h : k ≤ 256) : (bxs k ++ List.replicate (256 - k) 0).length = 256 := by rw [padb_len, bxs_len]; omega
theorem bxs_end : bxs 256 ++ List.replicate (256 - 256) 0 = boxL := by rw [bxs_all]; exact List.append_nil _

set_option linter.unusedVariables false in
set_option maxRecDepth 100000 in
set_option maxHeartbeats 2000000 in
theorem boxes_any (w : World) :
    Calls Try.prog 21 #[] w fun e w' => e = .returned (.agg (bc boxL)) ∧ Below w.heap.size w w' := by
  have H0 := HA.start w
  go_enter Try.func21, Try.ntmps21
  refine wp_seq ?_
  -- region 0
  refine wl_region ?_
  refine wl_make H0 46 (by kernel_rfl) run_alloc46 ?_
  intro q1 w2 h3
  refine wl_nil ?_
  refine then_at (F := ⟨(pt q1 :: List.replicate 63 un).toArray, []⟩) (by kernel_rfl) ?_
  refine wp_seq ?_
  -- region 1
  refine wl_region ?_
  refine wl_make h3 46 (by kernel_rfl) run_alloc46 ?_
  intro q4 w5 h6
  refine wl_nil ?_
  refine then_at (F := ⟨(pt q1 :: pt q4 :: List.replicate 62 un).toArray, []⟩) (by kernel_rfl) ?_
  refine wp_seq ?_
  refine wp_seq ?_
  -- region 2
  refine wl_region ?_
  refine wl_val (iN .i64 0) (by kernel_rfl) (by kernel_rfl) ?_
  refine wl_nil ?_
  refine then_at (F := ⟨(pt q1 :: pt q4 :: iN .i64 0 :: List.replicate 61 un).toArray, []⟩) (by kernel_rfl) ?_
  refine wp_block ?_
  refine wp_count (fun k A w' => ∃ u7 : Nat → Value, A = ⟨(pt q1 :: pt q4 :: iN .i64 k :: u7 3 :: u7 4 :: u7 5 :: u7 6 :: u7 7 :: u7 8 :: u7 9 :: u7 10 :: u7 11 :: u7 12 :: u7 13 :: u7 14 :: u7 15 :: u7 16 :: u7 17 :: u7 18 :: u7 19 :: u7 20 :: u7 21 :: u7 22 :: u7 23 :: u7 24 :: u7 25 :: u7 26 :: u7 27 :: u7 28 :: u7 29 :: u7 30 :: u7 31 :: u7 32 :: u7 33 :: u7 34 :: u7 35 :: u7 36 :: u7 37 :: u7 38 :: u7 39 :: u7 40 :: u7 41 :: u7 42 :: u7 43 :: u7 44 :: u7 45 :: u7 46 :: u7 47 :: u7 48 :: u7 49 :: u7 50 :: u7 51 :: u7 52 :: u7 53 :: u7 54 :: u7 55 :: u7 56 :: u7 57 :: u7 58 :: u7 59 :: u7 60 :: u7 61 :: u7 62 :: List.replicate 1 un).toArray, []⟩ ∧ HA w [(q4, 46, bc (bxs k ++ List.replicate (256 - k) 0)), (q1, 46, bc (List.replicate 256 0))] w') 256 ?_ ?_ ?_
  · exact ⟨fun ii => (([(3, undef), (4, undef), (5, undef), (6, undef), (7, undef), (8, undef), (9, undef), (10, undef), (11, undef), (12, undef), (13, undef), (14, undef), (15, undef), (16, undef), (17, undef), (18, undef), (19, undef), (20, undef), (21, undef), (22, undef), (23, undef), (24, undef), (25, undef), (26, undef), (27, undef), (28, undef), (29, undef), (30, undef), (31, undef), (32, undef), (33, undef), (34, undef), (35, undef), (36, undef), (37, undef), (38, undef), (39, undef), (40, undef), (41, undef), (42, undef), (43, undef), (44, undef), (45, undef), (46, undef), (47, undef), (48, undef), (49, undef), (50, undef), (51, undef), (52, undef), (53, undef), (54, undef), (55, undef), (56, undef), (57, undef), (58, undef), (59, undef), (60, undef), (61, undef), (62, undef)] : List (Nat × Value)).find? (·.1 == ii)).elim undef (·.2), by kernel_rfl, h6⟩
  · rintro k hk1 _ w8 ⟨u7, rfl, h9⟩
    refine wp_seq ?_
    refine wp_seq ?_
    -- region 3
    refine wl_region ?_
    refine wl_val (iN .i64 k) (by kernel_rfl) (by kernel_rfl) ?_
    refine wl_val (.bool true) (by kernel_rfl) (run_lss (k := .i64) (a := k) (b := 256) (by kernel_rfl) (by kernel_rfl) true (decide_eq_true (by omega))) ?_
    refine wl_nil ?_
    refine then_at (F := ⟨(pt q1 :: pt q4 :: iN .i64 k :: u7 3 :: u7 4 :: u7 5 :: u7 6 :: u7 7 :: iN .i64 k :: .bool true :: u7 10 :: u7 11 :: u7 12 :: u7 13 :: u7 14 :: u7 15 :: u7 16 :: u7 17 :: u7 18 :: u7 19 :: u7 20 :: u7 21 :: u7 22 :: u7 23 :: u7 24 :: u7 25 :: u7 26 :: u7 27 :: u7 28 :: u7 29 :: u7 30 :: u7 31 :: u7 32 :: u7 33 :: u7 34 :: u7 35 :: u7 36 :: u7 37 :: u7 38 :: u7 39 :: u7 40 :: u7 41 :: u7 42 :: u7 43 :: u7 44 :: u7 45 :: u7 46 :: u7 47 :: u7 48 :: u7 49 :: u7 50 :: u7 51 :: u7 52 :: u7 53 :: u7 54 :: u7 55 :: u7 56 :: u7 57 :: u7 58 :: u7 59 :: u7 60 :: u7 61 :: u7 62 :: List.replicate 1 un).toArray, []⟩) (by kernel_rfl) ?_
    refine wp_cond_true (by kernel_rfl) ?_
    refine wp_skip ?_
    refine then_at (F := ⟨(pt q1 :: pt q4 :: iN .i64 k :: u7 3 :: u7 4 :: u7 5 :: u7 6 :: u7 7 :: iN .i64 k :: .bool true :: u7 10 :: u7 11 :: u7 12 :: u7 13 :: u7 14 :: u7 15 :: u7 16 :: u7 17 :: u7 18 :: u7 19 :: u7 20 :: u7 21 :: u7 22 :: u7 23 :: u7 24 :: u7 25 :: u7 26 :: u7 27 :: u7 28 :: u7 29 :: u7 30 :: u7 31 :: u7 32 :: u7 33 :: u7 34 :: u7 35 :: u7 36 :: u7 37 :: u7 38 :: u7 39 :: u7 40 :: u7 41 :: u7 42 :: u7 43 :: u7 44 :: u7 45 :: u7 46 :: u7 47 :: u7 48 :: u7 49 :: u7 50 :: u7 51 :: u7 52 :: u7 53 :: u7 54 :: u7 55 :: u7 56 :: u7 57 :: u7 58 :: u7 59 :: u7 60 :: u7 61 :: u7 62 :: List.replicate 1 un).toArray, []⟩) (by kernel_rfl) ?_
    refine wp_seq ?_
    refine wp_block ?_
    refine wp_seq ?_
    -- region 5
    refine wl_region ?_
    refine wl_val (by8 ((1 : UInt8))) (by kernel_rfl) (by kernel_rfl) ?_
    refine wl_nil ?_
    refine then_at (F := ⟨(pt q1 :: pt q4 :: iN .i64 k :: by8 ((1 : UInt8)) :: u7 4 :: u7 5 :: u7 6 :: u7 7 :: iN .i64 k :: .bool true :: u7 10 :: u7 11 :: u7 12 :: u7 13 :: u7 14 :: u7 15 :: u7 16 :: u7 17 :: u7 18 :: u7 19 :: u7 20 :: u7 21 :: u7 22 :: u7 23 :: u7 24 :: u7 25 :: u7 26 :: u7 27 :: u7 28 :: u7 29 :: u7 30 :: u7 31 :: u7 32 :: u7 33 :: u7 34 :: u7 35 :: u7 36 :: u7 37 :: u7 38 :: u7 39 :: u7 40 :: u7 41 :: u7 42 :: u7 43 :: u7 44 :: u7 45 :: u7 46 :: u7 47 :: u7 48 :: u7 49 :: u7 50 :: u7 51 :: u7 52 :: u7 53 :: u7 54 :: u7 55 :: u7 56 :: u7 57 :: u7 58 :: u7 59 :: u7 60 :: u7 61 :: u7 62 :: List.replicate 1 un).toArray, []⟩) (by kernel_rfl) ?_
    refine wp_seq ?_
    refine wp_seq ?_
    -- region 6
    refine wl_region ?_
    refine wl_val (iN .i64 0) (by kernel_rfl) (by kernel_rfl) ?_
    refine wl_nil ?_
    refine then_at (F := ⟨(pt q1 :: pt q4 :: iN .i64 k :: by8 ((1 : UInt8)) :: iN .i64 0 :: u7 5 :: u7 6 :: u7 7 :: iN .i64 k :: .bool true :: u7 10 :: u7 11 :: u7 12 :: u7 13 :: u7 14 :: u7 15 :: u7 16 :: u7 17 :: u7 18 :: u7 19 :: u7 20 :: u7 21 :: u7 22 :: u7 23 :: u7 24 :: u7 25 :: u7 26 :: u7 27 :: u7 28 :: u7 29 :: u7 30 :: u7 31 :: u7 32 :: u7 33 :: u7 34 :: u7 35 :: u7 36 :: u7 37 :: u7 38 :: u7 39 :: u7 40 :: u7 41 :: u7 42 :: u7 43 :: u7 44 :: u7 45 :: u7 46 :: u7 47 :: u7 48 :: u7 49 :: u7 50 :: u7 51 :: u7 52 :: u7 53 :: u7 54 :: u7 55 :: u7 56 :: u7 57 :: u7 58 :: u7 59 :: u7 60 :: u7 61 :: u7 62 :: List.replicate 1 un).toArray, []⟩) (by kernel_rfl) ?_
    refine wp_block ?_
    refine wp_count (fun i A w' => ∃ u10 : Nat → Value, A = ⟨(pt q1 :: pt q4 :: iN .i64 k :: by8 (pw (UInt8.ofNat k) i) :: iN .i64 i :: u7 5 :: u7 6 :: u7 7 :: iN .i64 k :: .bool true :: u7 10 :: u7 11 :: u10 12 :: u10 13 :: u10 14 :: u10 15 :: u10 16 :: u10 17 :: u10 18 :: u10 19 :: u7 20 :: u7 21 :: u7 22 :: u7 23 :: u7 24 :: u7 25 :: u7 26 :: u7 27 :: u7 28 :: u7 29 :: u7 30 :: u7 31 :: u7 32 :: u7 33 :: u7 34 :: u7 35 :: u7 36 :: u7 37 :: u7 38 :: u7 39 :: u7 40 :: u7 41 :: u7 42 :: u7 43 :: u7 44 :: u7 45 :: u7 46 :: u7 47 :: u7 48 :: u7 49 :: u7 50 :: u7 51 :: u7 52 :: u7 53 :: u7 54 :: u7 55 :: u7 56 :: u7 57 :: u7 58 :: u7 59 :: u7 60 :: u7 61 :: u7 62 :: List.replicate 1 un).toArray, []⟩ ∧ HA w [(q4, 46, bc (bxs k ++ List.replicate (256 - k) 0)), (q1, 46, bc (List.replicate 256 0))] w') 254 ?_ ?_ ?_
    · exact ⟨fun ii => (([(12, u7 12), (13, u7 13), (14, u7 14), (15, u7 15), (16, u7 16), (17, u7 17), (18, u7 18), (19, u7 19)] : List (Nat × Value)).find? (·.1 == ii)).elim undef (·.2), by kernel_rfl, h9⟩
    · rintro i hi _ w11 ⟨u10, rfl, h12⟩
      refine wp_seq ?_
      refine wp_seq ?_
      -- region 7
      refine wl_region ?_
      refine wl_val (iN .i64 i) (by kernel_rfl) (by kernel_rfl) ?_
      refine wl_val (.bool true) (by kernel_rfl) (run_lss (k := .i64) (a := i) (b := 254) (by kernel_rfl) (by kernel_rfl) true (decide_eq_true (by omega))) ?_
      refine wl_nil ?_
      refine then_at (F := ⟨(pt q1 :: pt q4 :: iN .i64 k :: by8 (pw (UInt8.ofNat k) i) :: iN .i64 i :: u7 5 :: u7 6 :: u7 7 :: iN .i64 k :: .bool true :: u7 10 :: u7 11 :: iN .i64 i :: .bool true :: u10 14 :: u10 15 :: u10 16 :: u10 17 :: u10 18 :: u10 19 :: u7 20 :: u7 21 :: u7 22 :: u7 23 :: u7 24 :: u7 25 :: u7 26 :: u7 27 :: u7 28 :: u7 29 :: u7 30 :: u7 31 :: u7 32 :: u7 33 :: u7 34 :: u7 35 :: u7 36 :: u7 37 :: u7 38 :: u7 39 :: u7 40 :: u7 41 :: u7 42 :: u7 43 :: u7 44 :: u7 45 :: u7 46 :: u7 47 :: u7 48 :: u7 49 :: u7 50 :: u7 51 :: u7 52 :: u7 53 :: u7 54 :: u7 55 :: u7 56 :: u7 57 :: u7 58 :: u7 59 :: u7 60 :: u7 61 :: u7 62 :: List.replicate 1 un).toArray, []⟩) (by kernel_rfl) ?_
      refine wp_cond_true (by kernel_rfl) ?_
      refine wp_skip ?_
      refine then_at (F := ⟨(pt q1 :: pt q4 :: iN .i64 k :: by8 (pw (UInt8.ofNat k) i) :: iN .i64 i :: u7 5 :: u7 6 :: u7 7 :: iN .i64 k :: .bool true :: u7 10 :: u7 11 :: iN .i64 i :: .bool true :: u10 14 :: u10 15 :: u10 16 :: u10 17 :: u10 18 :: u10 19 :: u7 20 :: u7 21 :: u7 22 :: u7 23 :: u7 24 :: u7 25 :: u7 26 :: u7 27 :: u7 28 :: u7 29 :: u7 30 :: u7 31 :: u7 32 :: u7 33 :: u7 34 :: u7 35 :: u7 36 :: u7 37 :: u7 38 :: u7 39 :: u7 40 :: u7 41 :: u7 42 :: u7 43 :: u7 44 :: u7 45 :: u7 46 :: u7 47 :: u7 48 :: u7 49 :: u7 50 :: u7 51 :: u7 52 :: u7 53 :: u7 54 :: u7 55 :: u7 56 :: u7 57 :: u7 58 :: u7 59 :: u7 60 :: u7 61 :: u7 62 :: List.replicate 1 un).toArray, []⟩) (by kernel_rfl) ?_
      refine wp_seq ?_
      refine wp_block ?_
      -- region 9
      refine wl_region ?_
      refine wl_val (by8 (pw (UInt8.ofNat k) i)) (by kernel_rfl) (by kernel_rfl) ?_
      refine wl_val (iN .i64 k) (by kernel_rfl) (by kernel_rfl) ?_
      refine wl_val (by8 (UInt8.ofNat k)) (by kernel_rfl) (run_lown (a := k) (by kernel_rfl) Try.underlying3 Try.underlying5) ?_
      refine wl_call (v := by8 (pr (pw (UInt8.ofNat k) i) (UInt8.ofNat k))) h12 (by kernel_rfl) enter33 #[by8 (pw (UInt8.ofNat k) i), by8 (UInt8.ofNat k)] (by kernel_rfl) (product_any (pw (UInt8.ofNat k) i) (UInt8.ofNat k) w11) ?_
      intro w13 h14
      refine wl_val (by8 (pr (pw (UInt8.ofNat k) i) (UInt8.ofNat k))) (by kernel_rfl) (by kernel_rfl) ?_
      refine wl_nil ?_
      refine block_normal ?_
      refine then_at (F := ⟨(pt q1 :: pt q4 :: iN .i64 k :: by8 (pr (pw (UInt8.ofNat k) i) (UInt8.ofNat k)) :: iN .i64 i :: u7 5 :: u7 6 :: u7 7 :: iN .i64 k :: .bool true :: u7 10 :: u7 11 :: iN .i64 i :: .bool true :: u10 14 :: u10 15 :: by8 (pw (UInt8.ofNat k) i) :: iN .i64 k :: by8 (UInt8.ofNat k) :: by8 (pr (pw (UInt8.ofNat k) i) (UInt8.ofNat k)) :: u7 20 :: u7 21 :: u7 22 :: u7 23 :: u7 24 :: u7 25 :: u7 26 :: u7 27 :: u7 28 :: u7 29 :: u7 30 :: u7 31 :: u7 32 :: u7 33 :: u7 34 :: u7 35 :: u7 36 :: u7 37 :: u7 38 :: u7 39 :: u7 40 :: u7 41 :: u7 42 :: u7 43 :: u7 44 :: u7 45 :: u7 46 :: u7 47 :: u7 48 :: u7 49 :: u7 50 :: u7 51 :: u7 52 :: u7 53 :: u7 54 :: u7 55 :: u7 56 :: u7 57 :: u7 58 :: u7 59 :: u7 60 :: u7 61 :: u7 62 :: List.replicate 1 un).toArray, []⟩) (by kernel_rfl) ?_
      -- region 8
      refine wl_region ?_
      refine wl_val (iN .i64 i) (by kernel_rfl) (by kernel_rfl) ?_
      refine wl_val (iN .i64 (i + 1)) (by kernel_rfl) (run_add (k := .i64) (a := i) (b := 1) (by kernel_rfl) (by kernel_rfl) (by simp only [top]; omega)) ?_
      refine wl_val (iN .i64 (i + 1)) (by kernel_rfl) (by kernel_rfl) ?_
      refine wl_nil ?_
      exact then_I ⟨fun ii => (([(12, iN .i64 i), (13, .bool true), (14, iN .i64 i), (15, iN .i64 (i + 1)), (16, by8 (pw (UInt8.ofNat k) i)), (17, iN .i64 k), (18, by8 (UInt8.ofNat k)), (19, by8 (pr (pw (UInt8.ofNat k) i) (UInt8.ofNat k)))] : List (Nat × Value)).find? (·.1 == ii)).elim undef (·.2), by kernel_rfl, h14⟩
    · rintro _ w15 ⟨u10, rfl, h16⟩
      refine wp_seq ?_
      refine wp_seq ?_
      -- region 7
      refine wl_region ?_
      refine wl_val (iN .i64 254) (by kernel_rfl) (by kernel_rfl) ?_
      refine wl_val (.bool false) (by kernel_rfl) (run_lss (k := .i64) (a := 254) (b := 254) (by kernel_rfl) (by kernel_rfl) false (by decide)) ?_
      refine wl_nil ?_
      refine then_at (F := ⟨(pt q1 :: pt q4 :: iN .i64 k :: by8 (pw (UInt8.ofNat k) 254) :: iN .i64 254 :: u7 5 :: u7 6 :: u7 7 :: iN .i64 k :: .bool true :: u7 10 :: u7 11 :: iN .i64 254 :: .bool false :: u10 14 :: u10 15 :: u10 16 :: u10 17 :: u10 18 :: u10 19 :: u7 20 :: u7 21 :: u7 22 :: u7 23 :: u7 24 :: u7 25 :: u7 26 :: u7 27 :: u7 28 :: u7 29 :: u7 30 :: u7 31 :: u7 32 :: u7 33 :: u7 34 :: u7 35 :: u7 36 :: u7 37 :: u7 38 :: u7 39 :: u7 40 :: u7 41 :: u7 42 :: u7 43 :: u7 44 :: u7 45 :: u7 46 :: u7 47 :: u7 48 :: u7 49 :: u7 50 :: u7 51 :: u7 52 :: u7 53 :: u7 54 :: u7 55 :: u7 56 :: u7 57 :: u7 58 :: u7 59 :: u7 60 :: u7 61 :: u7 62 :: List.replicate 1 un).toArray, []⟩) (by kernel_rfl) ?_
      refine wp_cond_false (by kernel_rfl) ?_
      refine wp_exit ?_
      repeat first | refine then_exit ?_ | refine block_exit ?_ | refine block_exit_ne (by decide) ?_
      refine then_at (F := ⟨(pt q1 :: pt q4 :: iN .i64 k :: by8 (pw (UInt8.ofNat k) 254) :: iN .i64 254 :: u7 5 :: u7 6 :: u7 7 :: iN .i64 k :: .bool true :: u7 10 :: u7 11 :: iN .i64 254 :: .bool false :: u10 14 :: u10 15 :: u10 16 :: u10 17 :: u10 18 :: u10 19 :: u7 20 :: u7 21 :: u7 22 :: u7 23 :: u7 24 :: u7 25 :: u7 26 :: u7 27 :: u7 28 :: u7 29 :: u7 30 :: u7 31 :: u7 32 :: u7 33 :: u7 34 :: u7 35 :: u7 36 :: u7 37 :: u7 38 :: u7 39 :: u7 40 :: u7 41 :: u7 42 :: u7 43 :: u7 44 :: u7 45 :: u7 46 :: u7 47 :: u7 48 :: u7 49 :: u7 50 :: u7 51 :: u7 52 :: u7 53 :: u7 54 :: u7 55 :: u7 56 :: u7 57 :: u7 58 :: u7 59 :: u7 60 :: u7 61 :: u7 62 :: List.replicate 1 un).toArray, []⟩) (by kernel_rfl) ?_
      refine wp_seq ?_
      -- region 10
      refine wl_region ?_
      refine wl_val (by8 ((0 : UInt8))) (by kernel_rfl) (by kernel_rfl) ?_
      refine wl_nil ?_
      refine then_at (F := ⟨(pt q1 :: pt q4 :: iN .i64 k :: by8 (pw (UInt8.ofNat k) 254) :: iN .i64 254 :: by8 ((0 : UInt8)) :: u7 6 :: u7 7 :: iN .i64 k :: .bool true :: u7 10 :: u7 11 :: iN .i64 254 :: .bool false :: u10 14 :: u10 15 :: u10 16 :: u10 17 :: u10 18 :: u10 19 :: u7 20 :: u7 21 :: u7 22 :: u7 23 :: u7 24 :: u7 25 :: u7 26 :: u7 27 :: u7 28 :: u7 29 :: u7 30 :: u7 31 :: u7 32 :: u7 33 :: u7 34 :: u7 35 :: u7 36 :: u7 37 :: u7 38 :: u7 39 :: u7 40 :: u7 41 :: u7 42 :: u7 43 :: u7 44 :: u7 45 :: u7 46 :: u7 47 :: u7 48 :: u7 49 :: u7 50 :: u7 51 :: u7 52 :: u7 53 :: u7 54 :: u7 55 :: u7 56 :: u7 57 :: u7 58 :: u7 59 :: u7 60 :: u7 61 :: u7 62 :: List.replicate 1 un).toArray, []⟩) (by kernel_rfl) ?_
      refine wp_seq ?_
      refine wp_seq ?_
      -- region 11
      refine wl_region ?_
      refine wl_val (iN .i64 0) (by kernel_rfl) (by kernel_rfl) ?_
      refine wl_nil ?_
      refine then_at (F := ⟨(pt q1 :: pt q4 :: iN .i64 k :: by8 (pw (UInt8.ofNat k) 254) :: iN .i64 254 :: by8 ((0 : UInt8)) :: iN .i64 0 :: u7 7 :: iN .i64 k :: .bool true :: u7 10 :: u7 11 :: iN .i64 254 :: .bool false :: u10 14 :: u10 15 :: u10 16 :: u10 17 :: u10 18 :: u10 19 :: u7 20 :: u7 21 :: u7 22 :: u7 23 :: u7 24 :: u7 25 :: u7 26 :: u7 27 :: u7 28 :: u7 29 :: u7 30 :: u7 31 :: u7 32 :: u7 33 :: u7 34 :: u7 35 :: u7 36 :: u7 37 :: u7 38 :: u7 39 :: u7 40 :: u7 41 :: u7 42 :: u7 43 :: u7 44 :: u7 45 :: u7 46 :: u7 47 :: u7 48 :: u7 49 :: u7 50 :: u7 51 :: u7 52 :: u7 53 :: u7 54 :: u7 55 :: u7 56 :: u7 57 :: u7 58 :: u7 59 :: u7 60 :: u7 61 :: u7 62 :: List.replicate 1 un).toArray, []⟩) (by kernel_rfl) ?_
      refine wp_block ?_
      refine wp_count (fun j A w' => ∃ u17 : Nat → Value, A = ⟨(pt q1 :: pt q4 :: iN .i64 k :: by8 (pw (UInt8.ofNat k) 254) :: iN .i64 254 :: by8 (vb (pw (UInt8.ofNat k) 254) j) :: iN .i64 j :: u17 7 :: iN .i64 k :: .bool true :: u7 10 :: u7 11 :: iN .i64 254 :: .bool false :: u10 14 :: u10 15 :: u10 16 :: u10 17 :: u10 18 :: u10 19 :: u17 20 :: u17 21 :: u17 22 :: u17 23 :: u17 24 :: u17 25 :: u17 26 :: u17 27 :: u17 28 :: u17 29 :: u17 30 :: u17 31 :: u17 32 :: u17 33 :: u17 34 :: u17 35 :: u17 36 :: u17 37 :: u17 38 :: u17 39 :: u17 40 :: u17 41 :: u17 42 :: u17 43 :: u17 44 :: u17 45 :: u17 46 :: u17 47 :: u17 48 :: u17 49 :: u17 50 :: u17 51 :: u17 52 :: u17 53 :: u17 54 :: u17 55 :: u17 56 :: u17 57 :: u17 58 :: u17 59 :: u7 60 :: u7 61 :: u7 62 :: List.replicate 1 un).toArray, []⟩ ∧ HA w [(q4, 46, bc (bxs k ++ List.replicate (256 - k) 0)), (q1, 46, bc (List.replicate 256 0))] w') 8 ?_ ?_ ?_
      · exact ⟨fun ii => (([(7, u7 7), (20, u7 20), (21, u7 21), (22, u7 22), (23, u7 23), (24, u7 24), (25, u7 25), (26, u7 26), (27, u7 27), (28, u7 28), (29, u7 29), (30, u7 30), (31, u7 31), (32, u7 32), (33, u7 33), (34, u7 34), (35, u7 35), (36, u7 36), (37, u7 37), (38, u7 38), (39, u7 39), (40, u7 40), (41, u7 41), (42, u7 42), (43, u7 43), (44, u7 44), (45, u7 45), (46, u7 46), (47, u7 47), (48, u7 48), (49, u7 49), (50, u7 50), (51, u7 51), (52, u7 52), (53, u7 53), (54, u7 54), (55, u7 55), (56, u7 56), (57, u7 57), (58, u7 58), (59, u7 59)] : List (Nat × Value)).find? (·.1 == ii)).elim undef (·.2), by kernel_rfl, h16⟩
      · rintro j hj _ w18 ⟨u17, rfl, h19⟩
        refine wp_seq ?_
        refine wp_seq ?_
        -- region 12
        refine wl_region ?_
        refine wl_val (iN .i64 j) (by kernel_rfl) (by kernel_rfl) ?_
        refine wl_val (.bool true) (by kernel_rfl) (run_lss (k := .i64) (a := j) (b := 8) (by kernel_rfl) (by kernel_rfl) true (decide_eq_true (by omega))) ?_
        refine wl_nil ?_
        refine then_at (F := ⟨(pt q1 :: pt q4 :: iN .i64 k :: by8 (pw (UInt8.ofNat k) 254) :: iN .i64 254 :: by8 (vb (pw (UInt8.ofNat k) 254) j) :: iN .i64 j :: u17 7 :: iN .i64 k :: .bool true :: u7 10 :: u7 11 :: iN .i64 254 :: .bool false :: u10 14 :: u10 15 :: u10 16 :: u10 17 :: u10 18 :: u10 19 :: iN .i64 j :: .bool true :: u17 22 :: u17 23 :: u17 24 :: u17 25 :: u17 26 :: u17 27 :: u17 28 :: u17 29 :: u17 30 :: u17 31 :: u17 32 :: u17 33 :: u17 34 :: u17 35 :: u17 36 :: u17 37 :: u17 38 :: u17 39 :: u17 40 :: u17 41 :: u17 42 :: u17 43 :: u17 44 :: u17 45 :: u17 46 :: u17 47 :: u17 48 :: u17 49 :: u17 50 :: u17 51 :: u17 52 :: u17 53 :: u17 54 :: u17 55 :: u17 56 :: u17 57 :: u17 58 :: u17 59 :: u7 60 :: u7 61 :: u7 62 :: List.replicate 1 un).toArray, []⟩) (by kernel_rfl) ?_
        refine wp_cond_true (by kernel_rfl) ?_
        refine wp_skip ?_
        refine then_at (F := ⟨(pt q1 :: pt q4 :: iN .i64 k :: by8 (pw (UInt8.ofNat k) 254) :: iN .i64 254 :: by8 (vb (pw (UInt8.ofNat k) 254) j) :: iN .i64 j :: u17 7 :: iN .i64 k :: .bool true :: u7 10 :: u7 11 :: iN .i64 254 :: .bool false :: u10 14 :: u10 15 :: u10 16 :: u10 17 :: u10 18 :: u10 19 :: iN .i64 j :: .bool true :: u17 22 :: u17 23 :: u17 24 :: u17 25 :: u17 26 :: u17 27 :: u17 28 :: u17 29 :: u17 30 :: u17 31 :: u17 32 :: u17 33 :: u17 34 :: u17 35 :: u17 36 :: u17 37 :: u17 38 :: u17 39 :: u17 40 :: u17 41 :: u17 42 :: u17 43 :: u17 44 :: u17 45 :: u17 46 :: u17 47 :: u17 48 :: u17 49 :: u17 50 :: u17 51 :: u17 52 :: u17 53 :: u17 54 :: u17 55 :: u17 56 :: u17 57 :: u17 58 :: u17 59 :: u7 60 :: u7 61 :: u7 62 :: List.replicate 1 un).toArray, []⟩) (by kernel_rfl) ?_
        refine wp_seq ?_
        refine wp_block ?_
        refine wp_seq ?_
        -- region 14
        refine wp_region_sure ⟨(pt q1 :: pt q4 :: iN .i64 k :: by8 (pw (UInt8.ofNat k) 254) :: iN .i64 254 :: by8 (vb (pw (UInt8.ofNat k) 254) j) :: iN .i64 j :: by8 ((((((UInt8.ofNat ((pw (UInt8.ofNat k) 254).toNat / 2 ^ j)) ^^^ (UInt8.ofNat ((pw (UInt8.ofNat k) 254).toNat / 2 ^ ((j + 4) % 8)))) ^^^ (UInt8.ofNat ((pw (UInt8.ofNat k) 254).toNat / 2 ^ ((j + 5) % 8)))) ^^^ (UInt8.ofNat ((pw (UInt8.ofNat k) 254).toNat / 2 ^ ((j + 6) % 8)))) ^^^ (UInt8.ofNat ((pw (UInt8.ofNat k) 254).toNat / 2 ^ ((j + 7) % 8)))) ^^^ (UInt8.ofNat (((99 : UInt8)).toNat / 2 ^ j))) :: iN .i64 k :: .bool true :: u7 10 :: u7 11 :: iN .i64 254 :: .bool false :: u10 14 :: u10 15 :: u10 16 :: u10 17 :: u10 18 :: u10 19 :: iN .i64 j :: .bool true :: u17 22 :: u17 23 :: by8 (pw (UInt8.ofNat k) 254) :: iN .i64 j :: by8 (UInt8.ofNat ((pw (UInt8.ofNat k) 254).toNat / 2 ^ j)) :: by8 (pw (UInt8.ofNat k) 254) :: iN .i64 j :: iN .i64 (j + 4) :: iN .i64 ((j + 4) % 8) :: by8 (UInt8.ofNat ((pw (UInt8.ofNat k) 254).toNat / 2 ^ ((j + 4) % 8))) :: by8 ((UInt8.ofNat ((pw (UInt8.ofNat k) 254).toNat / 2 ^ j)) ^^^ (UInt8.ofNat ((pw (UInt8.ofNat k) 254).toNat / 2 ^ ((j + 4) % 8)))) :: by8 (pw (UInt8.ofNat k) 254) :: iN .i64 j :: iN .i64 (j + 5) :: iN .i64 ((j + 5) % 8) :: by8 (UInt8.ofNat ((pw (UInt8.ofNat k) 254).toNat / 2 ^ ((j + 5) % 8))) :: by8 (((UInt8.ofNat ((pw (UInt8.ofNat k) 254).toNat / 2 ^ j)) ^^^ (UInt8.ofNat ((pw (UInt8.ofNat k) 254).toNat / 2 ^ ((j + 4) % 8)))) ^^^ (UInt8.ofNat ((pw (UInt8.ofNat k) 254).toNat / 2 ^ ((j + 5) % 8)))) :: by8 (pw (UInt8.ofNat k) 254) :: iN .i64 j :: iN .i64 (j + 6) :: iN .i64 ((j + 6) % 8) :: by8 (UInt8.ofNat ((pw (UInt8.ofNat k) 254).toNat / 2 ^ ((j + 6) % 8))) :: by8 ((((UInt8.ofNat ((pw (UInt8.ofNat k) 254).toNat / 2 ^ j)) ^^^ (UInt8.ofNat ((pw (UInt8.ofNat k) 254).toNat / 2 ^ ((j + 4) % 8)))) ^^^ (UInt8.ofNat ((pw (UInt8.ofNat k) 254).toNat / 2 ^ ((j + 5) % 8)))) ^^^ (UInt8.ofNat ((pw (UInt8.ofNat k) 254).toNat / 2 ^ ((j + 6) % 8)))) :: by8 (pw (UInt8.ofNat k) 254) :: iN .i64 j :: iN .i64 (j + 7) :: iN .i64 ((j + 7) % 8) :: by8 (UInt8.ofNat ((pw (UInt8.ofNat k) 254).toNat / 2 ^ ((j + 7) % 8))) :: by8 (((((UInt8.ofNat ((pw (UInt8.ofNat k) 254).toNat / 2 ^ j)) ^^^ (UInt8.ofNat ((pw (UInt8.ofNat k) 254).toNat / 2 ^ ((j + 4) % 8)))) ^^^ (UInt8.ofNat ((pw (UInt8.ofNat k) 254).toNat / 2 ^ ((j + 5) % 8)))) ^^^ (UInt8.ofNat ((pw (UInt8.ofNat k) 254).toNat / 2 ^ ((j + 6) % 8)))) ^^^ (UInt8.ofNat ((pw (UInt8.ofNat k) 254).toNat / 2 ^ ((j + 7) % 8)))) :: iN .i64 j :: by8 (UInt8.ofNat (((99 : UInt8)).toNat / 2 ^ j)) :: by8 ((((((UInt8.ofNat ((pw (UInt8.ofNat k) 254).toNat / 2 ^ j)) ^^^ (UInt8.ofNat ((pw (UInt8.ofNat k) 254).toNat / 2 ^ ((j + 4) % 8)))) ^^^ (UInt8.ofNat ((pw (UInt8.ofNat k) 254).toNat / 2 ^ ((j + 5) % 8)))) ^^^ (UInt8.ofNat ((pw (UInt8.ofNat k) 254).toNat / 2 ^ ((j + 6) % 8)))) ^^^ (UInt8.ofNat ((pw (UInt8.ofNat k) 254).toNat / 2 ^ ((j + 7) % 8)))) ^^^ (UInt8.ofNat (((99 : UInt8)).toNat / 2 ^ j))) :: u17 54 :: u17 55 :: u17 56 :: u17 57 :: u17 58 :: u17 59 :: u7 60 :: u7 61 :: u7 62 :: List.replicate 1 un).toArray, []⟩ (HA w [(q4, 46, bc (bxs k ++ List.replicate (256 - k) 0)), (q1, 46, bc (List.replicate 256 0))]) [by8 (pw (UInt8.ofNat k) 254), iN .i64 j, by8 (UInt8.ofNat ((pw (UInt8.ofNat k) 254).toNat / 2 ^ j)), by8 (pw (UInt8.ofNat k) 254), iN .i64 j, iN .i64 (j + 4), iN .i64 ((j + 4) % 8), by8 (UInt8.ofNat ((pw (UInt8.ofNat k) 254).toNat / 2 ^ ((j + 4) % 8))), by8 ((UInt8.ofNat ((pw (UInt8.ofNat k) 254).toNat / 2 ^ j)) ^^^ (UInt8.ofNat ((pw (UInt8.ofNat k) 254).toNat / 2 ^ ((j + 4) % 8)))), by8 (pw (UInt8.ofNat k) 254), iN .i64 j, iN .i64 (j + 5), iN .i64 ((j + 5) % 8), by8 (UInt8.ofNat ((pw (UInt8.ofNat k) 254).toNat / 2 ^ ((j + 5) % 8))), by8 (((UInt8.ofNat ((pw (UInt8.ofNat k) 254).toNat / 2 ^ j)) ^^^ (UInt8.ofNat ((pw (UInt8.ofNat k) 254).toNat / 2 ^ ((j + 4) % 8)))) ^^^ (UInt8.ofNat ((pw (UInt8.ofNat k) 254).toNat / 2 ^ ((j + 5) % 8)))), by8 (pw (UInt8.ofNat k) 254), iN .i64 j, iN .i64 (j + 6), iN .i64 ((j + 6) % 8), by8 (UInt8.ofNat ((pw (UInt8.ofNat k) 254).toNat / 2 ^ ((j + 6) % 8))), by8 ((((UInt8.ofNat ((pw (UInt8.ofNat k) 254).toNat / 2 ^ j)) ^^^ (UInt8.ofNat ((pw (UInt8.ofNat k) 254).toNat / 2 ^ ((j + 4) % 8)))) ^^^ (UInt8.ofNat ((pw (UInt8.ofNat k) 254).toNat / 2 ^ ((j + 5) % 8)))) ^^^ (UInt8.ofNat ((pw (UInt8.ofNat k) 254).toNat / 2 ^ ((j + 6) % 8)))), by8 (pw (UInt8.ofNat k) 254), iN .i64 j, iN .i64 (j + 7), iN .i64 ((j + 7) % 8), by8 (UInt8.ofNat ((pw (UInt8.ofNat k) 254).toNat / 2 ^ ((j + 7) % 8))), by8 (((((UInt8.ofNat ((pw (UInt8.ofNat k) 254).toNat / 2 ^ j)) ^^^ (UInt8.ofNat ((pw (UInt8.ofNat k) 254).toNat / 2 ^ ((j + 4) % 8)))) ^^^ (UInt8.ofNat ((pw (UInt8.ofNat k) 254).toNat / 2 ^ ((j + 5) % 8)))) ^^^ (UInt8.ofNat ((pw (UInt8.ofNat k) 254).toNat / 2 ^ ((j + 6) % 8)))) ^^^ (UInt8.ofNat ((pw (UInt8.ofNat k) 254).toNat / 2 ^ ((j + 7) % 8)))), iN .i64 j, by8 (UInt8.ofNat (((99 : UInt8)).toNat / 2 ^ j)), by8 ((((((UInt8.ofNat ((pw (UInt8.ofNat k) 254).toNat / 2 ^ j)) ^^^ (UInt8.ofNat ((pw (UInt8.ofNat k) 254).toNat / 2 ^ ((j + 4) % 8)))) ^^^ (UInt8.ofNat ((pw (UInt8.ofNat k) 254).toNat / 2 ^ ((j + 5) % 8)))) ^^^ (UInt8.ofNat ((pw (UInt8.ofNat k) 254).toNat / 2 ^ ((j + 6) % 8)))) ^^^ (UInt8.ofNat ((pw (UInt8.ofNat k) 254).toNat / 2 ^ ((j + 7) % 8)))) ^^^ (UInt8.ofNat (((99 : UInt8)).toNat / 2 ^ j))), by8 ((((((UInt8.ofNat ((pw (UInt8.ofNat k) 254).toNat / 2 ^ j)) ^^^ (UInt8.ofNat ((pw (UInt8.ofNat k) 254).toNat / 2 ^ ((j + 4) % 8)))) ^^^ (UInt8.ofNat ((pw (UInt8.ofNat k) 254).toNat / 2 ^ ((j + 5) % 8)))) ^^^ (UInt8.ofNat ((pw (UInt8.ofNat k) 254).toNat / 2 ^ ((j + 6) % 8)))) ^^^ (UInt8.ofNat ((pw (UInt8.ofNat k) 254).toNat / 2 ^ ((j + 7) % 8)))) ^^^ (UInt8.ofNat (((99 : UInt8)).toNat / 2 ^ j)))] (by kernel_rfl) (by kernel_rfl) (by kernel_rfl) (by kernel_rfl) (fun _ _ _ h => h) h19.drew ?_ ?_
        · refine AllSure.cons (OpSure.take (v := by8 (pw (UInt8.ofNat k) 254)) (by kernel_rfl) (by kernel_rfl) (fun _ _ => (by kernel_rfl))) ?_
          refine AllSure.cons (OpSure.take (v := iN .i64 j) (by kernel_rfl) (by kernel_rfl) (fun _ _ => (by kernel_rfl))) ?_
          refine AllSure.cons (OpSure.take (v := by8 (UInt8.ofNat ((pw (UInt8.ofNat k) 254).toNat / 2 ^ j))) (by kernel_rfl) (by kernel_rfl) (fun _ _ => (run_shrb (k2 := .i64) (a := pw (UInt8.ofNat k) 254) (m := j) (by kernel_rfl) (by kernel_rfl) (by omega)))) ?_
          refine AllSure.cons (OpSure.take (v := by8 (pw (UInt8.ofNat k) 254)) (by kernel_rfl) (by kernel_rfl) (fun _ _ => (by kernel_rfl))) ?_
          refine AllSure.cons (OpSure.take (v := iN .i64 j) (by kernel_rfl) (by kernel_rfl) (fun _ _ => (by kernel_rfl))) ?_
          refine AllSure.cons (OpSure.take (v := iN .i64 (j + 4)) (by kernel_rfl) (by kernel_rfl) (fun _ _ => (run_add (k := .i64) (a := j) (b := 4) (by kernel_rfl) (by kernel_rfl) (by simp only [top]; omega)))) ?_
          refine AllSure.cons (OpSure.take (v := iN .i64 ((j + 4) % 8)) (by kernel_rfl) (by kernel_rfl) (fun _ _ => (run_rem (k := .i64) (a := j + 4) (b := 8) (by kernel_rfl) (by kernel_rfl) (by omega)))) ?_
          refine AllSure.cons (OpSure.take (v := by8 (UInt8.ofNat ((pw (UInt8.ofNat k) 254).toNat / 2 ^ ((j + 4) % 8)))) (by kernel_rfl) (by kernel_rfl) (fun _ _ => (run_shrb (k2 := .i64) (a := pw (UInt8.ofNat k) 254) (m := (j + 4) % 8) (by kernel_rfl) (by kernel_rfl) (by omega)))) ?_
          refine AllSure.cons (OpSure.take (v := by8 ((UInt8.ofNat ((pw (UInt8.ofNat k) 254).toNat / 2 ^ j)) ^^^ (UInt8.ofNat ((pw (UInt8.ofNat k) 254).toNat / 2 ^ ((j + 4) % 8))))) (by kernel_rfl) (by kernel_rfl) (fun _ _ => (run_xorb (a := UInt8.ofNat ((pw (UInt8.ofNat k) 254).toNat / 2 ^ j)) (b := UInt8.ofNat ((pw (UInt8.ofNat k) 254).toNat / 2 ^ ((j + 4) % 8))) (by kernel_rfl) (by kernel_rfl)))) ?_
          refine AllSure.cons (OpSure.take (v := by8 (pw (UInt8.ofNat k) 254)) (by kernel_rfl) (by kernel_rfl) (fun _ _ => (by kernel_rfl))) ?_
          refine AllSure.cons (OpSure.take (v := iN .i64 j) (by kernel_rfl) (by kernel_rfl) (fun _ _ => (by kernel_rfl))) ?_
          refine AllSure.cons (OpSure.take (v := iN .i64 (j + 5)) (by kernel_rfl) (by kernel_rfl) (fun _ _ => (run_add (k := .i64) (a := j) (b := 5) (by kernel_rfl) (by kernel_rfl) (by simp only [top]; omega)))) ?_
          refine AllSure.cons (OpSure.take (v := iN .i64 ((j + 5) % 8)) (by kernel_rfl) (by kernel_rfl) (fun _ _ => (run_rem (k := .i64) (a := j + 5) (b := 8) (by kernel_rfl) (by kernel_rfl) (by omega)))) ?_
          refine AllSure.cons (OpSure.take (v := by8 (UInt8.ofNat ((pw (UInt8.ofNat k) 254).toNat / 2 ^ ((j + 5) % 8)))) (by kernel_rfl) (by kernel_rfl) (fun _ _ => (run_shrb (k2 := .i64) (a := pw (UInt8.ofNat k) 254) (m := (j + 5) % 8) (by kernel_rfl) (by kernel_rfl) (by omega)))) ?_
          refine AllSure.cons (OpSure.take (v := by8 (((UInt8.ofNat ((pw (UInt8.ofNat k) 254).toNat / 2 ^ j)) ^^^ (UInt8.ofNat ((pw (UInt8.ofNat k) 254).toNat / 2 ^ ((j + 4) % 8)))) ^^^ (UInt8.ofNat ((pw (UInt8.ofNat k) 254).toNat / 2 ^ ((j + 5) % 8))))) (by kernel_rfl) (by kernel_rfl) (fun _ _ => (run_xorb (a := (UInt8.ofNat ((pw (UInt8.ofNat k) 254).toNat / 2 ^ j)) ^^^ (UInt8.ofNat ((pw (UInt8.ofNat k) 254).toNat / 2 ^ ((j + 4) % 8)))) (b := UInt8.ofNat ((pw (UInt8.ofNat k) 254).toNat / 2 ^ ((j + 5) % 8))) (by kernel_rfl) (by kernel_rfl)))) ?_
          refine AllSure.cons (OpSure.take (v := by8 (pw (UInt8.ofNat k) 254)) (by kernel_rfl) (by kernel_rfl) (fun _ _ => (by kernel_rfl))) ?_
          refine AllSure.cons (OpSure.take (v := iN .i64 j) (by kernel_rfl) (by kernel_rfl) (fun _ _ => (by kernel_rfl))) ?_
          refine AllSure.cons (OpSure.take (v := iN .i64 (j + 6)) (by kernel_rfl) (by kernel_rfl) (fun _ _ => (run_add (k := .i64) (a := j) (b := 6) (by kernel_rfl) (by kernel_rfl) (by simp only [top]; omega)))) ?_
          refine AllSure.cons (OpSure.take (v := iN .i64 ((j + 6) % 8)) (by kernel_rfl) (by kernel_rfl) (fun _ _ => (run_rem (k := .i64) (a := j + 6) (b := 8) (by kernel_rfl) (by kernel_rfl) (by omega)))) ?_
          refine AllSure.cons (OpSure.take (v := by8 (UInt8.ofNat ((pw (UInt8.ofNat k) 254).toNat / 2 ^ ((j + 6) % 8)))) (by kernel_rfl) (by kernel_rfl) (fun _ _ => (run_shrb (k2 := .i64) (a := pw (UInt8.ofNat k) 254) (m := (j + 6) % 8) (by kernel_rfl) (by kernel_rfl) (by omega)))) ?_
          refine AllSure.cons (OpSure.take (v := by8 ((((UInt8.ofNat ((pw (UInt8.ofNat k) 254).toNat / 2 ^ j)) ^^^ (UInt8.ofNat ((pw (UInt8.ofNat k) 254).toNat / 2 ^ ((j + 4) % 8)))) ^^^ (UInt8.ofNat ((pw (UInt8.ofNat k) 254).toNat / 2 ^ ((j + 5) % 8)))) ^^^ (UInt8.ofNat ((pw (UInt8.ofNat k) 254).toNat / 2 ^ ((j + 6) % 8))))) (by kernel_rfl) (by kernel_rfl) (fun _ _ => (run_xorb (a := ((UInt8.ofNat ((pw (UInt8.ofNat k) 254).toNat / 2 ^ j)) ^^^ (UInt8.ofNat ((pw (UInt8.ofNat k) 254).toNat / 2 ^ ((j + 4) % 8)))) ^^^ (UInt8.ofNat ((pw (UInt8.ofNat k) 254).toNat / 2 ^ ((j + 5) % 8)))) (b := UInt8.ofNat ((pw (UInt8.ofNat k) 254).toNat / 2 ^ ((j + 6) % 8))) (by kernel_rfl) (by kernel_rfl)))) ?_
          refine AllSure.cons (OpSure.take (v := by8 (pw (UInt8.ofNat k) 254)) (by kernel_rfl) (by kernel_rfl) (fun _ _ => (by kernel_rfl))) ?_
          refine AllSure.cons (OpSure.take (v := iN .i64 j) (by kernel_rfl) (by kernel_rfl) (fun _ _ => (by kernel_rfl))) ?_
          refine AllSure.cons (OpSure.take (v := iN .i64 (j + 7)) (by kernel_rfl) (by kernel_rfl) (fun _ _ => (run_add (k := .i64) (a := j) (b := 7) (by kernel_rfl) (by kernel_rfl) (by simp only [top]; omega)))) ?_
          refine AllSure.cons (OpSure.take (v := iN .i64 ((j + 7) % 8)) (by kernel_rfl) (by kernel_rfl) (fun _ _ => (run_rem (k := .i64) (a := j + 7) (b := 8) (by kernel_rfl) (by kernel_rfl) (by omega)))) ?_
          refine AllSure.cons (OpSure.take (v := by8 (UInt8.ofNat ((pw (UInt8.ofNat k) 254).toNat / 2 ^ ((j + 7) % 8)))) (by kernel_rfl) (by kernel_rfl) (fun _ _ => (run_shrb (k2 := .i64) (a := pw (UInt8.ofNat k) 254) (m := (j + 7) % 8) (by kernel_rfl) (by kernel_rfl) (by omega)))) ?_
          refine AllSure.cons (OpSure.take (v := by8 (((((UInt8.ofNat ((pw (UInt8.ofNat k) 254).toNat / 2 ^ j)) ^^^ (UInt8.ofNat ((pw (UInt8.ofNat k) 254).toNat / 2 ^ ((j + 4) % 8)))) ^^^ (UInt8.ofNat ((pw (UInt8.ofNat k) 254).toNat / 2 ^ ((j + 5) % 8)))) ^^^ (UInt8.ofNat ((pw (UInt8.ofNat k) 254).toNat / 2 ^ ((j + 6) % 8)))) ^^^ (UInt8.ofNat ((pw (UInt8.ofNat k) 254).toNat / 2 ^ ((j + 7) % 8))))) (by kernel_rfl) (by kernel_rfl) (fun _ _ => (run_xorb (a := (((UInt8.ofNat ((pw (UInt8.ofNat k) 254).toNat / 2 ^ j)) ^^^ (UInt8.ofNat ((pw (UInt8.ofNat k) 254).toNat / 2 ^ ((j + 4) % 8)))) ^^^ (UInt8.ofNat ((pw (UInt8.ofNat k) 254).toNat / 2 ^ ((j + 5) % 8)))) ^^^ (UInt8.ofNat ((pw (UInt8.ofNat k) 254).toNat / 2 ^ ((j + 6) % 8)))) (b := UInt8.ofNat ((pw (UInt8.ofNat k) 254).toNat / 2 ^ ((j + 7) % 8))) (by kernel_rfl) (by kernel_rfl)))) ?_
          refine AllSure.cons (OpSure.take (v := iN .i64 j) (by kernel_rfl) (by kernel_rfl) (fun _ _ => (by kernel_rfl))) ?_
          refine AllSure.cons (OpSure.take (v := by8 (UInt8.ofNat (((99 : UInt8)).toNat / 2 ^ j))) (by kernel_rfl) (by kernel_rfl) (fun _ _ => (run_shrb (k2 := .i64) (a := (99 : UInt8)) (m := j) (by kernel_rfl) (by kernel_rfl) (by omega)))) ?_
          refine AllSure.cons (OpSure.take (v := by8 ((((((UInt8.ofNat ((pw (UInt8.ofNat k) 254).toNat / 2 ^ j)) ^^^ (UInt8.ofNat ((pw (UInt8.ofNat k) 254).toNat / 2 ^ ((j + 4) % 8)))) ^^^ (UInt8.ofNat ((pw (UInt8.ofNat k) 254).toNat / 2 ^ ((j + 5) % 8)))) ^^^ (UInt8.ofNat ((pw (UInt8.ofNat k) 254).toNat / 2 ^ ((j + 6) % 8)))) ^^^ (UInt8.ofNat ((pw (UInt8.ofNat k) 254).toNat / 2 ^ ((j + 7) % 8)))) ^^^ (UInt8.ofNat (((99 : UInt8)).toNat / 2 ^ j)))) (by kernel_rfl) (by kernel_rfl) (fun _ _ => (run_xorb (a := ((((UInt8.ofNat ((pw (UInt8.ofNat k) 254).toNat / 2 ^ j)) ^^^ (UInt8.ofNat ((pw (UInt8.ofNat k) 254).toNat / 2 ^ ((j + 4) % 8)))) ^^^ (UInt8.ofNat ((pw (UInt8.ofNat k) 254).toNat / 2 ^ ((j + 5) % 8)))) ^^^ (UInt8.ofNat ((pw (UInt8.ofNat k) 254).toNat / 2 ^ ((j + 6) % 8)))) ^^^ (UInt8.ofNat ((pw (UInt8.ofNat k) 254).toNat / 2 ^ ((j + 7) % 8)))) (b := UInt8.ofNat (((99 : UInt8)).toNat / 2 ^ j)) (by kernel_rfl) (by kernel_rfl)))) ?_
          refine AllSure.cons (OpSure.take (v := by8 ((((((UInt8.ofNat ((pw (UInt8.ofNat k) 254).toNat / 2 ^ j)) ^^^ (UInt8.ofNat ((pw (UInt8.ofNat k) 254).toNat / 2 ^ ((j + 4) % 8)))) ^^^ (UInt8.ofNat ((pw (UInt8.ofNat k) 254).toNat / 2 ^ ((j + 5) % 8)))) ^^^ (UInt8.ofNat ((pw (UInt8.ofNat k) 254).toNat / 2 ^ ((j + 6) % 8)))) ^^^ (UInt8.ofNat ((pw (UInt8.ofNat k) 254).toNat / 2 ^ ((j + 7) % 8)))) ^^^ (UInt8.ofNat (((99 : UInt8)).toNat / 2 ^ j)))) (by kernel_rfl) (by kernel_rfl) (fun _ _ => (by kernel_rfl))) ?_
          exact AllSure.nil
        intro w20 h21
        refine then_at (F := ⟨(pt q1 :: pt q4 :: iN .i64 k :: by8 (pw (UInt8.ofNat k) 254) :: iN .i64 254 :: by8 (vb (pw (UInt8.ofNat k) 254) j) :: iN .i64 j :: by8 ((((((UInt8.ofNat ((pw (UInt8.ofNat k) 254).toNat / 2 ^ j)) ^^^ (UInt8.ofNat ((pw (UInt8.ofNat k) 254).toNat / 2 ^ ((j + 4) % 8)))) ^^^ (UInt8.ofNat ((pw (UInt8.ofNat k) 254).toNat / 2 ^ ((j + 5) % 8)))) ^^^ (UInt8.ofNat ((pw (UInt8.ofNat k) 254).toNat / 2 ^ ((j + 6) % 8)))) ^^^ (UInt8.ofNat ((pw (UInt8.ofNat k) 254).toNat / 2 ^ ((j + 7) % 8)))) ^^^ (UInt8.ofNat (((99 : UInt8)).toNat / 2 ^ j))) :: iN .i64 k :: .bool true :: u7 10 :: u7 11 :: iN .i64 254 :: .bool false :: u10 14 :: u10 15 :: u10 16 :: u10 17 :: u10 18 :: u10 19 :: iN .i64 j :: .bool true :: u17 22 :: u17 23 :: by8 (pw (UInt8.ofNat k) 254) :: iN .i64 j :: by8 (UInt8.ofNat ((pw (UInt8.ofNat k) 254).toNat / 2 ^ j)) :: by8 (pw (UInt8.ofNat k) 254) :: iN .i64 j :: iN .i64 (j + 4) :: iN .i64 ((j + 4) % 8) :: by8 (UInt8.ofNat ((pw (UInt8.ofNat k) 254).toNat / 2 ^ ((j + 4) % 8))) :: by8 ((UInt8.ofNat ((pw (UInt8.ofNat k) 254).toNat / 2 ^ j)) ^^^ (UInt8.ofNat ((pw (UInt8.ofNat k) 254).toNat / 2 ^ ((j + 4) % 8)))) :: by8 (pw (UInt8.ofNat k) 254) :: iN .i64 j :: iN .i64 (j + 5) :: iN .i64 ((j + 5) % 8) :: by8 (UInt8.ofNat ((pw (UInt8.ofNat k) 254).toNat / 2 ^ ((j + 5) % 8))) :: by8 (((UInt8.ofNat ((pw (UInt8.ofNat k) 254).toNat / 2 ^ j)) ^^^ (UInt8.ofNat ((pw (UInt8.ofNat k) 254).toNat / 2 ^ ((j + 4) % 8)))) ^^^ (UInt8.ofNat ((pw (UInt8.ofNat k) 254).toNat / 2 ^ ((j + 5) % 8)))) :: by8 (pw (UInt8.ofNat k) 254) :: iN .i64 j :: iN .i64 (j + 6) :: iN .i64 ((j + 6) % 8) :: by8 (UInt8.ofNat ((pw (UInt8.ofNat k) 254).toNat / 2 ^ ((j + 6) % 8))) :: by8 ((((UInt8.ofNat ((pw (UInt8.ofNat k) 254).toNat / 2 ^ j)) ^^^ (UInt8.ofNat ((pw (UInt8.ofNat k) 254).toNat / 2 ^ ((j + 4) % 8)))) ^^^ (UInt8.ofNat ((pw (UInt8.ofNat k) 254).toNat / 2 ^ ((j + 5) % 8)))) ^^^ (UInt8.ofNat ((pw (UInt8.ofNat k) 254).toNat / 2 ^ ((j + 6) % 8)))) :: by8 (pw (UInt8.ofNat k) 254) :: iN .i64 j :: iN .i64 (j + 7) :: iN .i64 ((j + 7) % 8) :: by8 (UInt8.ofNat ((pw (UInt8.ofNat k) 254).toNat / 2 ^ ((j + 7) % 8))) :: by8 (((((UInt8.ofNat ((pw (UInt8.ofNat k) 254).toNat / 2 ^ j)) ^^^ (UInt8.ofNat ((pw (UInt8.ofNat k) 254).toNat / 2 ^ ((j + 4) % 8)))) ^^^ (UInt8.ofNat ((pw (UInt8.ofNat k) 254).toNat / 2 ^ ((j + 5) % 8)))) ^^^ (UInt8.ofNat ((pw (UInt8.ofNat k) 254).toNat / 2 ^ ((j + 6) % 8)))) ^^^ (UInt8.ofNat ((pw (UInt8.ofNat k) 254).toNat / 2 ^ ((j + 7) % 8)))) :: iN .i64 j :: by8 (UInt8.ofNat (((99 : UInt8)).toNat / 2 ^ j)) :: by8 ((((((UInt8.ofNat ((pw (UInt8.ofNat k) 254).toNat / 2 ^ j)) ^^^ (UInt8.ofNat ((pw (UInt8.ofNat k) 254).toNat / 2 ^ ((j + 4) % 8)))) ^^^ (UInt8.ofNat ((pw (UInt8.ofNat k) 254).toNat / 2 ^ ((j + 5) % 8)))) ^^^ (UInt8.ofNat ((pw (UInt8.ofNat k) 254).toNat / 2 ^ ((j + 6) % 8)))) ^^^ (UInt8.ofNat ((pw (UInt8.ofNat k) 254).toNat / 2 ^ ((j + 7) % 8)))) ^^^ (UInt8.ofNat (((99 : UInt8)).toNat / 2 ^ j))) :: u17 54 :: u17 55 :: u17 56 :: u17 57 :: u17 58 :: u17 59 :: u7 60 :: u7 61 :: u7 62 :: List.replicate 1 un).toArray, []⟩) (by kernel_rfl) ?_
        -- region 15
        refine wl_region ?_
        refine wl_val (by8 (vb (pw (UInt8.ofNat k) 254) j)) (by kernel_rfl) (by kernel_rfl) ?_
        refine wl_val (by8 ((((((UInt8.ofNat ((pw (UInt8.ofNat k) 254).toNat / 2 ^ j)) ^^^ (UInt8.ofNat ((pw (UInt8.ofNat k) 254).toNat / 2 ^ ((j + 4) % 8)))) ^^^ (UInt8.ofNat ((pw (UInt8.ofNat k) 254).toNat / 2 ^ ((j + 5) % 8)))) ^^^ (UInt8.ofNat ((pw (UInt8.ofNat k) 254).toNat / 2 ^ ((j + 6) % 8)))) ^^^ (UInt8.ofNat ((pw (UInt8.ofNat k) 254).toNat / 2 ^ ((j + 7) % 8)))) ^^^ (UInt8.ofNat (((99 : UInt8)).toNat / 2 ^ j)))) (by kernel_rfl) (by kernel_rfl) ?_
        refine wl_val (by8 (((((((UInt8.ofNat ((pw (UInt8.ofNat k) 254).toNat / 2 ^ j)) ^^^ (UInt8.ofNat ((pw (UInt8.ofNat k) 254).toNat / 2 ^ ((j + 4) % 8)))) ^^^ (UInt8.ofNat ((pw (UInt8.ofNat k) 254).toNat / 2 ^ ((j + 5) % 8)))) ^^^ (UInt8.ofNat ((pw (UInt8.ofNat k) 254).toNat / 2 ^ ((j + 6) % 8)))) ^^^ (UInt8.ofNat ((pw (UInt8.ofNat k) 254).toNat / 2 ^ ((j + 7) % 8)))) ^^^ (UInt8.ofNat (((99 : UInt8)).toNat / 2 ^ j))) &&& ((1 : UInt8)))) (by kernel_rfl) (run_andb (a := (((((UInt8.ofNat ((pw (UInt8.ofNat k) 254).toNat / 2 ^ j)) ^^^ (UInt8.ofNat ((pw (UInt8.ofNat k) 254).toNat / 2 ^ ((j + 4) % 8)))) ^^^ (UInt8.ofNat ((pw (UInt8.ofNat k) 254).toNat / 2 ^ ((j + 5) % 8)))) ^^^ (UInt8.ofNat ((pw (UInt8.ofNat k) 254).toNat / 2 ^ ((j + 6) % 8)))) ^^^ (UInt8.ofNat ((pw (UInt8.ofNat k) 254).toNat / 2 ^ ((j + 7) % 8)))) ^^^ (UInt8.ofNat (((99 : UInt8)).toNat / 2 ^ j))) (b := (1 : UInt8)) (by kernel_rfl) (by kernel_rfl)) ?_
        refine wl_val (iN .i64 j) (by kernel_rfl) (by kernel_rfl) ?_
        refine wl_val (by8 (UInt8.ofNat ((((((((UInt8.ofNat ((pw (UInt8.ofNat k) 254).toNat / 2 ^ j)) ^^^ (UInt8.ofNat ((pw (UInt8.ofNat k) 254).toNat / 2 ^ ((j + 4) % 8)))) ^^^ (UInt8.ofNat ((pw (UInt8.ofNat k) 254).toNat / 2 ^ ((j + 5) % 8)))) ^^^ (UInt8.ofNat ((pw (UInt8.ofNat k) 254).toNat / 2 ^ ((j + 6) % 8)))) ^^^ (UInt8.ofNat ((pw (UInt8.ofNat k) 254).toNat / 2 ^ ((j + 7) % 8)))) ^^^ (UInt8.ofNat (((99 : UInt8)).toNat / 2 ^ j))) &&& ((1 : UInt8))).toNat * 2 ^ j))) (by kernel_rfl) (run_shlb (k2 := .i64) (a := ((((((UInt8.ofNat ((pw (UInt8.ofNat k) 254).toNat / 2 ^ j)) ^^^ (UInt8.ofNat ((pw (UInt8.ofNat k) 254).toNat / 2 ^ ((j + 4) % 8)))) ^^^ (UInt8.ofNat ((pw (UInt8.ofNat k) 254).toNat / 2 ^ ((j + 5) % 8)))) ^^^ (UInt8.ofNat ((pw (UInt8.ofNat k) 254).toNat / 2 ^ ((j + 6) % 8)))) ^^^ (UInt8.ofNat ((pw (UInt8.ofNat k) 254).toNat / 2 ^ ((j + 7) % 8)))) ^^^ (UInt8.ofNat (((99 : UInt8)).toNat / 2 ^ j))) &&& ((1 : UInt8))) (m := j) (by kernel_rfl) (by kernel_rfl) (by omega)) ?_
        refine wl_val (by8 ((vb (pw (UInt8.ofNat k) 254) j) ||| (UInt8.ofNat ((((((((UInt8.ofNat ((pw (UInt8.ofNat k) 254).toNat / 2 ^ j)) ^^^ (UInt8.ofNat ((pw (UInt8.ofNat k) 254).toNat / 2 ^ ((j + 4) % 8)))) ^^^ (UInt8.ofNat ((pw (UInt8.ofNat k) 254).toNat / 2 ^ ((j + 5) % 8)))) ^^^ (UInt8.ofNat ((pw (UInt8.ofNat k) 254).toNat / 2 ^ ((j + 6) % 8)))) ^^^ (UInt8.ofNat ((pw (UInt8.ofNat k) 254).toNat / 2 ^ ((j + 7) % 8)))) ^^^ (UInt8.ofNat (((99 : UInt8)).toNat / 2 ^ j))) &&& ((1 : UInt8))).toNat * 2 ^ j)))) (by kernel_rfl) (run_orb (a := vb (pw (UInt8.ofNat k) 254) j) (b := UInt8.ofNat ((((((((UInt8.ofNat ((pw (UInt8.ofNat k) 254).toNat / 2 ^ j)) ^^^ (UInt8.ofNat ((pw (UInt8.ofNat k) 254).toNat / 2 ^ ((j + 4) % 8)))) ^^^ (UInt8.ofNat ((pw (UInt8.ofNat k) 254).toNat / 2 ^ ((j + 5) % 8)))) ^^^ (UInt8.ofNat ((pw (UInt8.ofNat k) 254).toNat / 2 ^ ((j + 6) % 8)))) ^^^ (UInt8.ofNat ((pw (UInt8.ofNat k) 254).toNat / 2 ^ ((j + 7) % 8)))) ^^^ (UInt8.ofNat (((99 : UInt8)).toNat / 2 ^ j))) &&& ((1 : UInt8))).toNat * 2 ^ j)) (by kernel_rfl) (by kernel_rfl)) ?_
        refine wl_val (by8 ((vb (pw (UInt8.ofNat k) 254) j) ||| (UInt8.ofNat ((((((((UInt8.ofNat ((pw (UInt8.ofNat k) 254).toNat / 2 ^ j)) ^^^ (UInt8.ofNat ((pw (UInt8.ofNat k) 254).toNat / 2 ^ ((j + 4) % 8)))) ^^^ (UInt8.ofNat ((pw (UInt8.ofNat k) 254).toNat / 2 ^ ((j + 5) % 8)))) ^^^ (UInt8.ofNat ((pw (UInt8.ofNat k) 254).toNat / 2 ^ ((j + 6) % 8)))) ^^^ (UInt8.ofNat ((pw (UInt8.ofNat k) 254).toNat / 2 ^ ((j + 7) % 8)))) ^^^ (UInt8.ofNat (((99 : UInt8)).toNat / 2 ^ j))) &&& ((1 : UInt8))).toNat * 2 ^ j)))) (by kernel_rfl) (by kernel_rfl) ?_
        refine wl_nil ?_
        refine block_normal ?_
        refine then_at (F := ⟨(pt q1 :: pt q4 :: iN .i64 k :: by8 (pw (UInt8.ofNat k) 254) :: iN .i64 254 :: by8 ((vb (pw (UInt8.ofNat k) 254) j) ||| (UInt8.ofNat ((((((((UInt8.ofNat ((pw (UInt8.ofNat k) 254).toNat / 2 ^ j)) ^^^ (UInt8.ofNat ((pw (UInt8.ofNat k) 254).toNat / 2 ^ ((j + 4) % 8)))) ^^^ (UInt8.ofNat ((pw (UInt8.ofNat k) 254).toNat / 2 ^ ((j + 5) % 8)))) ^^^ (UInt8.ofNat ((pw (UInt8.ofNat k) 254).toNat / 2 ^ ((j + 6) % 8)))) ^^^ (UInt8.ofNat ((pw (UInt8.ofNat k) 254).toNat / 2 ^ ((j + 7) % 8)))) ^^^ (UInt8.ofNat (((99 : UInt8)).toNat / 2 ^ j))) &&& ((1 : UInt8))).toNat * 2 ^ j))) :: iN .i64 j :: by8 ((((((UInt8.ofNat ((pw (UInt8.ofNat k) 254).toNat / 2 ^ j)) ^^^ (UInt8.ofNat ((pw (UInt8.ofNat k) 254).toNat / 2 ^ ((j + 4) % 8)))) ^^^ (UInt8.ofNat ((pw (UInt8.ofNat k) 254).toNat / 2 ^ ((j + 5) % 8)))) ^^^ (UInt8.ofNat ((pw (UInt8.ofNat k) 254).toNat / 2 ^ ((j + 6) % 8)))) ^^^ (UInt8.ofNat ((pw (UInt8.ofNat k) 254).toNat / 2 ^ ((j + 7) % 8)))) ^^^ (UInt8.ofNat (((99 : UInt8)).toNat / 2 ^ j))) :: iN .i64 k :: .bool true :: u7 10 :: u7 11 :: iN .i64 254 :: .bool false :: u10 14 :: u10 15 :: u10 16 :: u10 17 :: u10 18 :: u10 19 :: iN .i64 j :: .bool true :: u17 22 :: u17 23 :: by8 (pw (UInt8.ofNat k) 254) :: iN .i64 j :: by8 (UInt8.ofNat ((pw (UInt8.ofNat k) 254).toNat / 2 ^ j)) :: by8 (pw (UInt8.ofNat k) 254) :: iN .i64 j :: iN .i64 (j + 4) :: iN .i64 ((j + 4) % 8) :: by8 (UInt8.ofNat ((pw (UInt8.ofNat k) 254).toNat / 2 ^ ((j + 4) % 8))) :: by8 ((UInt8.ofNat ((pw (UInt8.ofNat k) 254).toNat / 2 ^ j)) ^^^ (UInt8.ofNat ((pw (UInt8.ofNat k) 254).toNat / 2 ^ ((j + 4) % 8)))) :: by8 (pw (UInt8.ofNat k) 254) :: iN .i64 j :: iN .i64 (j + 5) :: iN .i64 ((j + 5) % 8) :: by8 (UInt8.ofNat ((pw (UInt8.ofNat k) 254).toNat / 2 ^ ((j + 5) % 8))) :: by8 (((UInt8.ofNat ((pw (UInt8.ofNat k) 254).toNat / 2 ^ j)) ^^^ (UInt8.ofNat ((pw (UInt8.ofNat k) 254).toNat / 2 ^ ((j + 4) % 8)))) ^^^ (UInt8.ofNat ((pw (UInt8.ofNat k) 254).toNat / 2 ^ ((j + 5) % 8)))) :: by8 (pw (UInt8.ofNat k) 254) :: iN .i64 j :: iN .i64 (j + 6) :: iN .i64 ((j + 6) % 8) :: by8 (UInt8.ofNat ((pw (UInt8.ofNat k) 254).toNat / 2 ^ ((j + 6) % 8))) :: by8 ((((UInt8.ofNat ((pw (UInt8.ofNat k) 254).toNat / 2 ^ j)) ^^^ (UInt8.ofNat ((pw (UInt8.ofNat k) 254).toNat / 2 ^ ((j + 4) % 8)))) ^^^ (UInt8.ofNat ((pw (UInt8.ofNat k) 254).toNat / 2 ^ ((j + 5) % 8)))) ^^^ (UInt8.ofNat ((pw (UInt8.ofNat k) 254).toNat / 2 ^ ((j + 6) % 8)))) :: by8 (pw (UInt8.ofNat k) 254) :: iN .i64 j :: iN .i64 (j + 7) :: iN .i64 ((j + 7) % 8) :: by8 (UInt8.ofNat ((pw (UInt8.ofNat k) 254).toNat / 2 ^ ((j + 7) % 8))) :: by8 (((((UInt8.ofNat ((pw (UInt8.ofNat k) 254).toNat / 2 ^ j)) ^^^ (UInt8.ofNat ((pw (UInt8.ofNat k) 254).toNat / 2 ^ ((j + 4) % 8)))) ^^^ (UInt8.ofNat ((pw (UInt8.ofNat k) 254).toNat / 2 ^ ((j + 5) % 8)))) ^^^ (UInt8.ofNat ((pw (UInt8.ofNat k) 254).toNat / 2 ^ ((j + 6) % 8)))) ^^^ (UInt8.ofNat ((pw (UInt8.ofNat k) 254).toNat / 2 ^ ((j + 7) % 8)))) :: iN .i64 j :: by8 (UInt8.ofNat (((99 : UInt8)).toNat / 2 ^ j)) :: by8 ((((((UInt8.ofNat ((pw (UInt8.ofNat k) 254).toNat / 2 ^ j)) ^^^ (UInt8.ofNat ((pw (UInt8.ofNat k) 254).toNat / 2 ^ ((j + 4) % 8)))) ^^^ (UInt8.ofNat ((pw (UInt8.ofNat k) 254).toNat / 2 ^ ((j + 5) % 8)))) ^^^ (UInt8.ofNat ((pw (UInt8.ofNat k) 254).toNat / 2 ^ ((j + 6) % 8)))) ^^^ (UInt8.ofNat ((pw (UInt8.ofNat k) 254).toNat / 2 ^ ((j + 7) % 8)))) ^^^ (UInt8.ofNat (((99 : UInt8)).toNat / 2 ^ j))) :: by8 (vb (pw (UInt8.ofNat k) 254) j) :: by8 ((((((UInt8.ofNat ((pw (UInt8.ofNat k) 254).toNat / 2 ^ j)) ^^^ (UInt8.ofNat ((pw (UInt8.ofNat k) 254).toNat / 2 ^ ((j + 4) % 8)))) ^^^ (UInt8.ofNat ((pw (UInt8.ofNat k) 254).toNat / 2 ^ ((j + 5) % 8)))) ^^^ (UInt8.ofNat ((pw (UInt8.ofNat k) 254).toNat / 2 ^ ((j + 6) % 8)))) ^^^ (UInt8.ofNat ((pw (UInt8.ofNat k) 254).toNat / 2 ^ ((j + 7) % 8)))) ^^^ (UInt8.ofNat (((99 : UInt8)).toNat / 2 ^ j))) :: by8 (((((((UInt8.ofNat ((pw (UInt8.ofNat k) 254).toNat / 2 ^ j)) ^^^ (UInt8.ofNat ((pw (UInt8.ofNat k) 254).toNat / 2 ^ ((j + 4) % 8)))) ^^^ (UInt8.ofNat ((pw (UInt8.ofNat k) 254).toNat / 2 ^ ((j + 5) % 8)))) ^^^ (UInt8.ofNat ((pw (UInt8.ofNat k) 254).toNat / 2 ^ ((j + 6) % 8)))) ^^^ (UInt8.ofNat ((pw (UInt8.ofNat k) 254).toNat / 2 ^ ((j + 7) % 8)))) ^^^ (UInt8.ofNat (((99 : UInt8)).toNat / 2 ^ j))) &&& ((1 : UInt8))) :: iN .i64 j :: by8 (UInt8.ofNat ((((((((UInt8.ofNat ((pw (UInt8.ofNat k) 254).toNat / 2 ^ j)) ^^^ (UInt8.ofNat ((pw (UInt8.ofNat k) 254).toNat / 2 ^ ((j + 4) % 8)))) ^^^ (UInt8.ofNat ((pw (UInt8.ofNat k) 254).toNat / 2 ^ ((j + 5) % 8)))) ^^^ (UInt8.ofNat ((pw (UInt8.ofNat k) 254).toNat / 2 ^ ((j + 6) % 8)))) ^^^ (UInt8.ofNat ((pw (UInt8.ofNat k) 254).toNat / 2 ^ ((j + 7) % 8)))) ^^^ (UInt8.ofNat (((99 : UInt8)).toNat / 2 ^ j))) &&& ((1 : UInt8))).toNat * 2 ^ j)) :: by8 ((vb (pw (UInt8.ofNat k) 254) j) ||| (UInt8.ofNat ((((((((UInt8.ofNat ((pw (UInt8.ofNat k) 254).toNat / 2 ^ j)) ^^^ (UInt8.ofNat ((pw (UInt8.ofNat k) 254).toNat / 2 ^ ((j + 4) % 8)))) ^^^ (UInt8.ofNat ((pw (UInt8.ofNat k) 254).toNat / 2 ^ ((j + 5) % 8)))) ^^^ (UInt8.ofNat ((pw (UInt8.ofNat k) 254).toNat / 2 ^ ((j + 6) % 8)))) ^^^ (UInt8.ofNat ((pw (UInt8.ofNat k) 254).toNat / 2 ^ ((j + 7) % 8)))) ^^^ (UInt8.ofNat (((99 : UInt8)).toNat / 2 ^ j))) &&& ((1 : UInt8))).toNat * 2 ^ j))) :: u7 60 :: u7 61 :: u7 62 :: List.replicate 1 un).toArray, []⟩) (by kernel_rfl) ?_
        -- region 13
        refine wl_region ?_
        refine wl_val (iN .i64 j) (by kernel_rfl) (by kernel_rfl) ?_
        refine wl_val (iN .i64 (j + 1)) (by kernel_rfl) (run_add (k := .i64) (a := j) (b := 1) (by kernel_rfl) (by kernel_rfl) (by simp only [top]; omega)) ?_
        refine wl_val (iN .i64 (j + 1)) (by kernel_rfl) (by kernel_rfl) ?_
        refine wl_nil ?_
        exact then_I ⟨fun ii => (([(7, by8 ((((((UInt8.ofNat ((pw (UInt8.ofNat k) 254).toNat / 2 ^ j)) ^^^ (UInt8.ofNat ((pw (UInt8.ofNat k) 254).toNat / 2 ^ ((j + 4) % 8)))) ^^^ (UInt8.ofNat ((pw (UInt8.ofNat k) 254).toNat / 2 ^ ((j + 5) % 8)))) ^^^ (UInt8.ofNat ((pw (UInt8.ofNat k) 254).toNat / 2 ^ ((j + 6) % 8)))) ^^^ (UInt8.ofNat ((pw (UInt8.ofNat k) 254).toNat / 2 ^ ((j + 7) % 8)))) ^^^ (UInt8.ofNat (((99 : UInt8)).toNat / 2 ^ j)))), (20, iN .i64 j), (21, .bool true), (22, iN .i64 j), (23, iN .i64 (j + 1)), (24, by8 (pw (UInt8.ofNat k) 254)), (25, iN .i64 j), (26, by8 (UInt8.ofNat ((pw (UInt8.ofNat k) 254).toNat / 2 ^ j))), (27, by8 (pw (UInt8.ofNat k) 254)), (28, iN .i64 j), (29, iN .i64 (j + 4)), (30, iN .i64 ((j + 4) % 8)), (31, by8 (UInt8.ofNat ((pw (UInt8.ofNat k) 254).toNat / 2 ^ ((j + 4) % 8)))), (32, by8 ((UInt8.ofNat ((pw (UInt8.ofNat k) 254).toNat / 2 ^ j)) ^^^ (UInt8.ofNat ((pw (UInt8.ofNat k) 254).toNat / 2 ^ ((j + 4) % 8))))), (33, by8 (pw (UInt8.ofNat k) 254)), (34, iN .i64 j), (35, iN .i64 (j + 5)), (36, iN .i64 ((j + 5) % 8)), (37, by8 (UInt8.ofNat ((pw (UInt8.ofNat k) 254).toNat / 2 ^ ((j + 5) % 8)))), (38, by8 (((UInt8.ofNat ((pw (UInt8.ofNat k) 254).toNat / 2 ^ j)) ^^^ (UInt8.ofNat ((pw (UInt8.ofNat k) 254).toNat / 2 ^ ((j + 4) % 8)))) ^^^ (UInt8.ofNat ((pw (UInt8.ofNat k) 254).toNat / 2 ^ ((j + 5) % 8))))), (39, by8 (pw (UInt8.ofNat k) 254)), (40, iN .i64 j), (41, iN .i64 (j + 6)), (42, iN .i64 ((j + 6) % 8)), (43, by8 (UInt8.ofNat ((pw (UInt8.ofNat k) 254).toNat / 2 ^ ((j + 6) % 8)))), (44, by8 ((((UInt8.ofNat ((pw (UInt8.ofNat k) 254).toNat / 2 ^ j)) ^^^ (UInt8.ofNat ((pw (UInt8.ofNat k) 254).toNat / 2 ^ ((j + 4) % 8)))) ^^^ (UInt8.ofNat ((pw (UInt8.ofNat k) 254).toNat / 2 ^ ((j + 5) % 8)))) ^^^ (UInt8.ofNat ((pw (UInt8.ofNat k) 254).toNat / 2 ^ ((j + 6) % 8))))), (45, by8 (pw (UInt8.ofNat k) 254)), (46, iN .i64 j), (47, iN .i64 (j + 7)), (48, iN .i64 ((j + 7) % 8)), (49, by8 (UInt8.ofNat ((pw (UInt8.ofNat k) 254).toNat / 2 ^ ((j + 7) % 8)))), (50, by8 (((((UInt8.ofNat ((pw (UInt8.ofNat k) 254).toNat / 2 ^ j)) ^^^ (UInt8.ofNat ((pw (UInt8.ofNat k) 254).toNat / 2 ^ ((j + 4) % 8)))) ^^^ (UInt8.ofNat ((pw (UInt8.ofNat k) 254).toNat / 2 ^ ((j + 5) % 8)))) ^^^ (UInt8.ofNat ((pw (UInt8.ofNat k) 254).toNat / 2 ^ ((j + 6) % 8)))) ^^^ (UInt8.ofNat ((pw (UInt8.ofNat k) 254).toNat / 2 ^ ((j + 7) % 8))))), (51, iN .i64 j), (52, by8 (UInt8.ofNat (((99 : UInt8)).toNat / 2 ^ j))), (53, by8 ((((((UInt8.ofNat ((pw (UInt8.ofNat k) 254).toNat / 2 ^ j)) ^^^ (UInt8.ofNat ((pw (UInt8.ofNat k) 254).toNat / 2 ^ ((j + 4) % 8)))) ^^^ (UInt8.ofNat ((pw (UInt8.ofNat k) 254).toNat / 2 ^ ((j + 5) % 8)))) ^^^ (UInt8.ofNat ((pw (UInt8.ofNat k) 254).toNat / 2 ^ ((j + 6) % 8)))) ^^^ (UInt8.ofNat ((pw (UInt8.ofNat k) 254).toNat / 2 ^ ((j + 7) % 8)))) ^^^ (UInt8.ofNat (((99 : UInt8)).toNat / 2 ^ j)))), (54, by8 (vb (pw (UInt8.ofNat k) 254) j)), (55, by8 ((((((UInt8.ofNat ((pw (UInt8.ofNat k) 254).toNat / 2 ^ j)) ^^^ (UInt8.ofNat ((pw (UInt8.ofNat k) 254).toNat / 2 ^ ((j + 4) % 8)))) ^^^ (UInt8.ofNat ((pw (UInt8.ofNat k) 254).toNat / 2 ^ ((j + 5) % 8)))) ^^^ (UInt8.ofNat ((pw (UInt8.ofNat k) 254).toNat / 2 ^ ((j + 6) % 8)))) ^^^ (UInt8.ofNat ((pw (UInt8.ofNat k) 254).toNat / 2 ^ ((j + 7) % 8)))) ^^^ (UInt8.ofNat (((99 : UInt8)).toNat / 2 ^ j)))), (56, by8 (((((((UInt8.ofNat ((pw (UInt8.ofNat k) 254).toNat / 2 ^ j)) ^^^ (UInt8.ofNat ((pw (UInt8.ofNat k) 254).toNat / 2 ^ ((j + 4) % 8)))) ^^^ (UInt8.ofNat ((pw (UInt8.ofNat k) 254).toNat / 2 ^ ((j + 5) % 8)))) ^^^ (UInt8.ofNat ((pw (UInt8.ofNat k) 254).toNat / 2 ^ ((j + 6) % 8)))) ^^^ (UInt8.ofNat ((pw (UInt8.ofNat k) 254).toNat / 2 ^ ((j + 7) % 8)))) ^^^ (UInt8.ofNat (((99 : UInt8)).toNat / 2 ^ j))) &&& ((1 : UInt8)))), (57, iN .i64 j), (58, by8 (UInt8.ofNat ((((((((UInt8.ofNat ((pw (UInt8.ofNat k) 254).toNat / 2 ^ j)) ^^^ (UInt8.ofNat ((pw (UInt8.ofNat k) 254).toNat / 2 ^ ((j + 4) % 8)))) ^^^ (UInt8.ofNat ((pw (UInt8.ofNat k) 254).toNat / 2 ^ ((j + 5) % 8)))) ^^^ (UInt8.ofNat ((pw (UInt8.ofNat k) 254).toNat / 2 ^ ((j + 6) % 8)))) ^^^ (UInt8.ofNat ((pw (UInt8.ofNat k) 254).toNat / 2 ^ ((j + 7) % 8)))) ^^^ (UInt8.ofNat (((99 : UInt8)).toNat / 2 ^ j))) &&& ((1 : UInt8))).toNat * 2 ^ j))), (59, by8 ((vb (pw (UInt8.ofNat k) 254) j) ||| (UInt8.ofNat ((((((((UInt8.ofNat ((pw (UInt8.ofNat k) 254).toNat / 2 ^ j)) ^^^ (UInt8.ofNat ((pw (UInt8.ofNat k) 254).toNat / 2 ^ ((j + 4) % 8)))) ^^^ (UInt8.ofNat ((pw (UInt8.ofNat k) 254).toNat / 2 ^ ((j + 5) % 8)))) ^^^ (UInt8.ofNat ((pw (UInt8.ofNat k) 254).toNat / 2 ^ ((j + 6) % 8)))) ^^^ (UInt8.ofNat ((pw (UInt8.ofNat k) 254).toNat / 2 ^ ((j + 7) % 8)))) ^^^ (UInt8.ofNat (((99 : UInt8)).toNat / 2 ^ j))) &&& ((1 : UInt8))).toNat * 2 ^ j))))] : List (Nat × Value)).find? (·.1 == ii)).elim undef (·.2), by kernel_rfl, h21⟩
      · rintro _ w22 ⟨u17, rfl, h23⟩
        refine wp_seq ?_
        refine wp_seq ?_
        -- region 12
        refine wl_region ?_
        refine wl_val (iN .i64 8) (by kernel_rfl) (by kernel_rfl) ?_
        refine wl_val (.bool false) (by kernel_rfl) (run_lss (k := .i64) (a := 8) (b := 8) (by kernel_rfl) (by kernel_rfl) false (by decide)) ?_
        refine wl_nil ?_
        refine then_at (F := ⟨(pt q1 :: pt q4 :: iN .i64 k :: by8 (pw (UInt8.ofNat k) 254) :: iN .i64 254 :: by8 (vb (pw (UInt8.ofNat k) 254) 8) :: iN .i64 8 :: u17 7 :: iN .i64 k :: .bool true :: u7 10 :: u7 11 :: iN .i64 254 :: .bool false :: u10 14 :: u10 15 :: u10 16 :: u10 17 :: u10 18 :: u10 19 :: iN .i64 8 :: .bool false :: u17 22 :: u17 23 :: u17 24 :: u17 25 :: u17 26 :: u17 27 :: u17 28 :: u17 29 :: u17 30 :: u17 31 :: u17 32 :: u17 33 :: u17 34 :: u17 35 :: u17 36 :: u17 37 :: u17 38 :: u17 39 :: u17 40 :: u17 41 :: u17 42 :: u17 43 :: u17 44 :: u17 45 :: u17 46 :: u17 47 :: u17 48 :: u17 49 :: u17 50 :: u17 51 :: u17 52 :: u17 53 :: u17 54 :: u17 55 :: u17 56 :: u17 57 :: u17 58 :: u17 59 :: u7 60 :: u7 61 :: u7 62 :: List.replicate 1 un).toArray, []⟩) (by kernel_rfl) ?_
        refine wp_cond_false (by kernel_rfl) ?_
        refine wp_exit ?_
        repeat first | refine then_exit ?_ | refine block_exit ?_ | refine block_exit_ne (by decide) ?_
        refine then_at (F := ⟨(pt q1 :: pt q4 :: iN .i64 k :: by8 (pw (UInt8.ofNat k) 254) :: iN .i64 254 :: by8 (vb (pw (UInt8.ofNat k) 254) 8) :: iN .i64 8 :: u17 7 :: iN .i64 k :: .bool true :: u7 10 :: u7 11 :: iN .i64 254 :: .bool false :: u10 14 :: u10 15 :: u10 16 :: u10 17 :: u10 18 :: u10 19 :: iN .i64 8 :: .bool false :: u17 22 :: u17 23 :: u17 24 :: u17 25 :: u17 26 :: u17 27 :: u17 28 :: u17 29 :: u17 30 :: u17 31 :: u17 32 :: u17 33 :: u17 34 :: u17 35 :: u17 36 :: u17 37 :: u17 38 :: u17 39 :: u17 40 :: u17 41 :: u17 42 :: u17 43 :: u17 44 :: u17 45 :: u17 46 :: u17 47 :: u17 48 :: u17 49 :: u17 50 :: u17 51 :: u17 52 :: u17 53 :: u17 54 :: u17 55 :: u17 56 :: u17 57 :: u17 58 :: u17 59 :: u7 60 :: u7 61 :: u7 62 :: List.replicate 1 un).toArray, []⟩) (by kernel_rfl) ?_
        -- region 16
        refine wl_region ?_
        refine wl_val (iN .i64 k) (by kernel_rfl) (by kernel_rfl) ?_
        refine wl_val (by8 (vb (pw (UInt8.ofNat k) 254) 8)) (by kernel_rfl) (by kernel_rfl) ?_
        refine wl_val (.pointer (some ⟨q4, k, none⟩)) (by kernel_rfl) (addr_eq (by omega) (run_addr_k (k := .i64) (q := q4) (o := 0) (a := k) (m := 1) Try.underlying46 (fun w => Try.sizeOf5 w) (by kernel_rfl) (by kernel_rfl) (by omega))) ?_
        refine wl_put (k := .u8) (z := (((vb (pw (UInt8.ofNat k) 254) 8).toNat : Nat) : Int)) h23 0 rfl k (by rw [bc_size, (bb_len k (by omega))]; omega) (by kernel_rfl) (fun w => Try.sizeOf5 w) (by kernel_rfl) (by kernel_rfl) ?_
        intro w24 h25
        have h26 : HA w [(q4, 46, bc (bxs (k + 1) ++ List.replicate (256 - (k + 1)) 0)), (q1, 46, bc (List.replicate 256 0))] w24 := by
          have e : (bc (bxs k ++ List.replicate (256 - k) 0)).setIfInBounds k (.int .u8 (((vb (pw (UInt8.ofNat k) 254) 8).toNat : Nat) : Int)) = bc (bxs (k + 1) ++ List.replicate (256 - (k + 1)) 0) := (padb_put (bxs k) (256 - k) (256 - (k + 1)) k (boxP (UInt8.ofNat k)) (bxs_len k) (by omega))
          rw [← e]; exact h25
        clear h25
        refine wl_nil ?_
        refine block_normal ?_
        refine then_at (F := ⟨(pt q1 :: pt q4 :: iN .i64 k :: by8 (pw (UInt8.ofNat k) 254) :: iN .i64 254 :: by8 (vb (pw (UInt8.ofNat k) 254) 8) :: iN .i64 8 :: u17 7 :: iN .i64 k :: .bool true :: u7 10 :: u7 11 :: iN .i64 254 :: .bool false :: u10 14 :: u10 15 :: u10 16 :: u10 17 :: u10 18 :: u10 19 :: iN .i64 8 :: .bool false :: u17 22 :: u17 23 :: u17 24 :: u17 25 :: u17 26 :: u17 27 :: u17 28 :: u17 29 :: u17 30 :: u17 31 :: u17 32 :: u17 33 :: u17 34 :: u17 35 :: u17 36 :: u17 37 :: u17 38 :: u17 39 :: u17 40 :: u17 41 :: u17 42 :: u17 43 :: u17 44 :: u17 45 :: u17 46 :: u17 47 :: u17 48 :: u17 49 :: u17 50 :: u17 51 :: u17 52 :: u17 53 :: u17 54 :: u17 55 :: u17 56 :: u17 57 :: u17 58 :: u17 59 :: iN .i64 k :: by8 (vb (pw (UInt8.ofNat k) 254) 8) :: .pointer (some ⟨q4, k, none⟩) :: List.replicate 1 un).toArray, []⟩) (by kernel_rfl) ?_
        -- region 4
        refine wl_region ?_
        refine wl_val (iN .i64 k) (by kernel_rfl) (by kernel_rfl) ?_
        refine wl_val (iN .i64 (k + 1)) (by kernel_rfl) (run_add (k := .i64) (a := k) (b := 1) (by kernel_rfl) (by kernel_rfl) (by simp only [top]; omega)) ?_
        refine wl_val (iN .i64 (k + 1)) (by kernel_rfl) (by kernel_rfl) ?_
        refine wl_nil ?_
        exact then_I ⟨fun ii => (([(3, by8 (pw (UInt8.ofNat k) 254)), (4, iN .i64 254), (5, by8 (vb (pw (UInt8.ofNat k) 254) 8)), (6, iN .i64 8), (7, u17 7), (8, iN .i64 k), (9, .bool true), (10, iN .i64 k), (11, iN .i64 (k + 1)), (12, iN .i64 254), (13, .bool false), (14, u10 14), (15, u10 15), (16, u10 16), (17, u10 17), (18, u10 18), (19, u10 19), (20, iN .i64 8), (21, .bool false), (22, u17 22), (23, u17 23), (24, u17 24), (25, u17 25), (26, u17 26), (27, u17 27), (28, u17 28), (29, u17 29), (30, u17 30), (31, u17 31), (32, u17 32), (33, u17 33), (34, u17 34), (35, u17 35), (36, u17 36), (37, u17 37), (38, u17 38), (39, u17 39), (40, u17 40), (41, u17 41), (42, u17 42), (43, u17 43), (44, u17 44), (45, u17 45), (46, u17 46), (47, u17 47), (48, u17 48), (49, u17 49), (50, u17 50), (51, u17 51), (52, u17 52), (53, u17 53), (54, u17 54), (55, u17 55), (56, u17 56), (57, u17 57), (58, u17 58), (59, u17 59), (60, iN .i64 k), (61, by8 (vb (pw (UInt8.ofNat k) 254) 8)), (62, .pointer (some ⟨q4, k, none⟩))] : List (Nat × Value)).find? (·.1 == ii)).elim undef (·.2), by kernel_rfl, h26⟩
  · rintro _ w27 ⟨u7, rfl, h28⟩
    refine wp_seq ?_
    refine wp_seq ?_
    -- region 3
    refine wl_region ?_
    refine wl_val (iN .i64 256) (by kernel_rfl) (by kernel_rfl) ?_
    refine wl_val (.bool false) (by kernel_rfl) (run_lss (k := .i64) (a := 256) (b := 256) (by kernel_rfl) (by kernel_rfl) false (by decide)) ?_
    refine wl_nil ?_
    refine then_at (F := ⟨(pt q1 :: pt q4 :: iN .i64 256 :: u7 3 :: u7 4 :: u7 5 :: u7 6 :: u7 7 :: iN .i64 256 :: .bool false :: u7 10 :: u7 11 :: u7 12 :: u7 13 :: u7 14 :: u7 15 :: u7 16 :: u7 17 :: u7 18 :: u7 19 :: u7 20 :: u7 21 :: u7 22 :: u7 23 :: u7 24 :: u7 25 :: u7 26 :: u7 27 :: u7 28 :: u7 29 :: u7 30 :: u7 31 :: u7 32 :: u7 33 :: u7 34 :: u7 35 :: u7 36 :: u7 37 :: u7 38 :: u7 39 :: u7 40 :: u7 41 :: u7 42 :: u7 43 :: u7 44 :: u7 45 :: u7 46 :: u7 47 :: u7 48 :: u7 49 :: u7 50 :: u7 51 :: u7 52 :: u7 53 :: u7 54 :: u7 55 :: u7 56 :: u7 57 :: u7 58 :: u7 59 :: u7 60 :: u7 61 :: u7 62 :: List.replicate 1 un).toArray, []⟩) (by kernel_rfl) ?_
    refine wp_cond_false (by kernel_rfl) ?_
    refine wp_exit ?_
    repeat first | refine then_exit ?_ | refine block_exit ?_ | refine block_exit_ne (by decide) ?_
    refine then_at (F := ⟨(pt q1 :: pt q4 :: iN .i64 256 :: u7 3 :: u7 4 :: u7 5 :: u7 6 :: u7 7 :: iN .i64 256 :: .bool false :: u7 10 :: u7 11 :: u7 12 :: u7 13 :: u7 14 :: u7 15 :: u7 16 :: u7 17 :: u7 18 :: u7 19 :: u7 20 :: u7 21 :: u7 22 :: u7 23 :: u7 24 :: u7 25 :: u7 26 :: u7 27 :: u7 28 :: u7 29 :: u7 30 :: u7 31 :: u7 32 :: u7 33 :: u7 34 :: u7 35 :: u7 36 :: u7 37 :: u7 38 :: u7 39 :: u7 40 :: u7 41 :: u7 42 :: u7 43 :: u7 44 :: u7 45 :: u7 46 :: u7 47 :: u7 48 :: u7 49 :: u7 50 :: u7 51 :: u7 52 :: u7 53 :: u7 54 :: u7 55 :: u7 56 :: u7 57 :: u7 58 :: u7 59 :: u7 60 :: u7 61 :: u7 62 :: List.replicate 1 un).toArray, []⟩) (by kernel_rfl) ?_
    refine wp_seq ?_
    -- region 17
    refine wl_region ?_
    refine wl_load h28 0 rfl (by kernel_rfl) (by kernel_rfl) Try.underlying46 rfl (info46 (bxs 256 ++ List.replicate (256 - 256) 0) (bb_len 256 (by omega))) ?_
    refine wl_fill (c' := bc (bxs 256 ++ List.replicate (256 - 256) 0)) h28 1 rfl (by kernel_rfl) (by kernel_rfl) (by kernel_rfl) (by rw [bc_size, bc_size, (bb_len 256 (by omega)), (List.length_replicate)]) (info46 (bxs 256 ++ List.replicate (256 - 256) 0) (bb_len 256 (by omega))) (one_bc (bxs 256 ++ List.replicate (256 - 256) 0)) ?_
    intro w29 (h30 : HA w [(q4, 46, bc (bxs 256 ++ List.replicate (256 - 256) 0)), (q1, 46, bc (bxs 256 ++ List.replicate (256 - 256) 0))] w29)
    refine wl_nil ?_
    refine then_at (F := ⟨(pt q1 :: pt q4 :: iN .i64 256 :: u7 3 :: u7 4 :: u7 5 :: u7 6 :: u7 7 :: iN .i64 256 :: .bool false :: u7 10 :: u7 11 :: u7 12 :: u7 13 :: u7 14 :: u7 15 :: u7 16 :: u7 17 :: u7 18 :: u7 19 :: u7 20 :: u7 21 :: u7 22 :: u7 23 :: u7 24 :: u7 25 :: u7 26 :: u7 27 :: u7 28 :: u7 29 :: u7 30 :: u7 31 :: u7 32 :: u7 33 :: u7 34 :: u7 35 :: u7 36 :: u7 37 :: u7 38 :: u7 39 :: u7 40 :: u7 41 :: u7 42 :: u7 43 :: u7 44 :: u7 45 :: u7 46 :: u7 47 :: u7 48 :: u7 49 :: u7 50 :: u7 51 :: u7 52 :: u7 53 :: u7 54 :: u7 55 :: u7 56 :: u7 57 :: u7 58 :: u7 59 :: u7 60 :: u7 61 :: u7 62 :: .agg (bc (bxs 256 ++ List.replicate (256 - 256) 0)) :: List.replicate 0 un).toArray, []⟩) (by kernel_rfl) ?_
    refine wp_ret ?_
    repeat first | refine then_ret ?_ | refine block_ret ?_
    exact bodyPost_ret (v := .agg (bc (bxs 256 ++ List.replicate (256 - 256) 0))) (res_cell (p := 0) (by kernel_rfl) (by kernel_rfl) (h30.get 1 rfl) Try.underlying46 rfl (info46 (bxs 256 ++ List.replicate (256 - 256) 0) (bb_len 256 (by omega)))) rfl ⟨by rw [bxs_end], h30.old⟩
theorem of_len (s : ByteArray) (hs : s.size = 16) (k : Nat) (h : k ≤ 16) : ((bl s).take k).length = k := by rw [List.length_take, bl_len, hs]; omega
theorem of_next (s : ByteArray) (hs : s.size = 16) (k : Nat) (h : k < 16) : (bl s).take (k + 1) = (bl s).take k ++ [(bl s).getD k 0] := by
  have hl : k < (bl s).length := by rw [bl_len, hs]; exact h
  rw [List.take_add_one, List.getElem?_eq_getElem hl, List.getD_eq_getElem?_getD, List.getElem?_eq_getElem hl]
  rfl
theorem ob16 {l : List UInt8} {n m : Nat} (h : l.length = n) (hn : n + m = 16) : (l ++ List.replicate m 0).length = 16 := by rw [List.length_append, List.length_replicate, h, hn]
theorem of_end (s : ByteArray) (hs : s.size = 16) : (bl s).take 16 ++ List.replicate (16 - 16) 0 = bl s := by rw [List.take_of_length_le (by rw [bl_len, hs]; omega)]; exact List.append_nil _

set_option linter.unusedVariables false in
set_option maxRecDepth 100000 in
set_option maxHeartbeats 2000000 in
theorem of_any (s : ByteArray) (hs : s.size = 16) (w : World) :
    Calls Try.prog 24 #[.string s] w fun e w' => e = .returned (.agg (bc (bl s))) ∧ Below w.heap.size w w' := by
  have H0 := HA.start w
  go_enter Try.func24, Try.ntmps24
  refine wp_seq ?_
  -- region 0
  refine wl_region ?_
  refine wl_make H0 37 (by kernel_rfl) run_alloc37 ?_
  intro q1 w2 h3
  refine wl_nil ?_
  refine then_at (F := ⟨(.string s :: un :: pt q1 :: List.replicate 12 un).toArray, []⟩) (by kernel_rfl) ?_
  refine wp_seq ?_
  -- region 1
  refine wl_region ?_
  refine wl_make h3 37 (by kernel_rfl) run_alloc37 ?_
  intro q4 w5 h6
  refine wl_nil ?_
  refine then_at (F := ⟨(.string s :: un :: pt q1 :: pt q4 :: List.replicate 11 un).toArray, []⟩) (by kernel_rfl) ?_
  refine wp_seq ?_
  refine wp_seq ?_
  -- region 2
  refine wl_region ?_
  refine wl_val (iN .i64 0) (by kernel_rfl) (by kernel_rfl) ?_
  refine wl_nil ?_
  refine then_at (F := ⟨(.string s :: un :: pt q1 :: pt q4 :: iN .i64 0 :: List.replicate 10 un).toArray, []⟩) (by kernel_rfl) ?_
  refine wp_block ?_
  refine wp_count (fun k A w' => ∃ u7 : Nat → Value, A = ⟨(.string s :: un :: pt q1 :: pt q4 :: iN .i64 k :: u7 5 :: u7 6 :: u7 7 :: u7 8 :: u7 9 :: u7 10 :: u7 11 :: u7 12 :: u7 13 :: List.replicate 1 un).toArray, []⟩ ∧ HA w [(q4, 37, bc ((bl s).take k ++ List.replicate (16 - k) 0)), (q1, 37, bc (List.replicate 16 0))] w') 16 ?_ ?_ ?_
  · exact ⟨fun ii => (([(5, undef), (6, undef), (7, undef), (8, undef), (9, undef), (10, undef), (11, undef), (12, undef), (13, undef)] : List (Nat × Value)).find? (·.1 == ii)).elim undef (·.2), by kernel_rfl, h6⟩
  · rintro k hk _ w8 ⟨u7, rfl, h9⟩
    refine wp_seq ?_
    refine wp_seq ?_
    -- region 3
    refine wl_region ?_
    refine wl_val (iN .i64 k) (by kernel_rfl) (by kernel_rfl) ?_
    refine wl_val (.bool true) (by kernel_rfl) (run_lss (k := .i64) (a := k) (b := 16) (by kernel_rfl) (by kernel_rfl) true (decide_eq_true (by omega))) ?_
    refine wl_nil ?_
    refine then_at (F := ⟨(.string s :: un :: pt q1 :: pt q4 :: iN .i64 k :: iN .i64 k :: .bool true :: u7 7 :: u7 8 :: u7 9 :: u7 10 :: u7 11 :: u7 12 :: u7 13 :: List.replicate 1 un).toArray, []⟩) (by kernel_rfl) ?_
    refine wp_cond_true (by kernel_rfl) ?_
    refine wp_skip ?_
    refine then_at (F := ⟨(.string s :: un :: pt q1 :: pt q4 :: iN .i64 k :: iN .i64 k :: .bool true :: u7 7 :: u7 8 :: u7 9 :: u7 10 :: u7 11 :: u7 12 :: u7 13 :: List.replicate 1 un).toArray, []⟩) (by kernel_rfl) ?_
    refine wp_seq ?_
    refine wp_block ?_
    -- region 5
    refine wl_region ?_
    refine wl_val (iN .i64 k) (by kernel_rfl) (by kernel_rfl) ?_
    refine wl_val (.string s) (by kernel_rfl) (by kernel_rfl) ?_
    refine wl_val (iN .i64 k) (by kernel_rfl) (by kernel_rfl) ?_
    refine wl_val (by8 ((bl s).getD (k) 0)) (by kernel_rfl) (run_idx (s := s) (k := .i64) (a := k) (by kernel_rfl) (by kernel_rfl) (by omega)) ?_
    refine wl_val (.pointer (some ⟨q4, k, none⟩)) (by kernel_rfl) (addr_eq (by omega) (run_addr_k (k := .i64) (q := q4) (o := 0) (a := k) (m := 1) Try.underlying37 (fun w => Try.sizeOf5 w) (by kernel_rfl) (by kernel_rfl) (by omega))) ?_
    refine wl_put (k := .u8) (z := ((((bl s).getD (k) 0).toNat : Nat) : Int)) h9 0 rfl k (by rw [bc_size, (ob16 (of_len s hs k (by omega)) (by omega))]; omega) (by kernel_rfl) (fun w => Try.sizeOf5 w) (by kernel_rfl) (by kernel_rfl) ?_
    intro w10 h11
    have h12 : HA w [(q4, 37, bc ((bl s).take (k + 1) ++ List.replicate (16 - (k + 1)) 0)), (q1, 37, bc (List.replicate 16 0))] w10 := by
      have e : (bc ((bl s).take k ++ List.replicate (16 - k) 0)).setIfInBounds k (.int .u8 ((((bl s).getD (k) 0).toNat : Nat) : Int)) = bc ((bl s).take (k + 1) ++ List.replicate (16 - (k + 1)) 0) := (by rw [of_next s hs k (by omega)]; exact padb_put ((bl s).take k) (16 - k) (16 - (k + 1)) k ((bl s).getD k 0) (of_len s hs k (by omega)) (by omega))
      rw [← e]; exact h11
    clear h11
    refine wl_nil ?_
    refine block_normal ?_
    refine then_at (F := ⟨(.string s :: un :: pt q1 :: pt q4 :: iN .i64 k :: iN .i64 k :: .bool true :: u7 7 :: u7 8 :: iN .i64 k :: .string s :: iN .i64 k :: by8 ((bl s).getD (k) 0) :: .pointer (some ⟨q4, k, none⟩) :: List.replicate 1 un).toArray, []⟩) (by kernel_rfl) ?_
    -- region 4
    refine wl_region ?_
    refine wl_val (iN .i64 k) (by kernel_rfl) (by kernel_rfl) ?_
    refine wl_val (iN .i64 (k + 1)) (by kernel_rfl) (run_add (k := .i64) (a := k) (b := 1) (by kernel_rfl) (by kernel_rfl) (by simp only [top]; omega)) ?_
    refine wl_val (iN .i64 (k + 1)) (by kernel_rfl) (by kernel_rfl) ?_
    refine wl_nil ?_
    exact then_I ⟨fun ii => (([(5, iN .i64 k), (6, .bool true), (7, iN .i64 k), (8, iN .i64 (k + 1)), (9, iN .i64 k), (10, .string s), (11, iN .i64 k), (12, by8 ((bl s).getD (k) 0)), (13, .pointer (some ⟨q4, k, none⟩))] : List (Nat × Value)).find? (·.1 == ii)).elim undef (·.2), by kernel_rfl, h12⟩
  · rintro _ w13 ⟨u7, rfl, h14⟩
    refine wp_seq ?_
    refine wp_seq ?_
    -- region 3
    refine wl_region ?_
    refine wl_val (iN .i64 16) (by kernel_rfl) (by kernel_rfl) ?_
    refine wl_val (.bool false) (by kernel_rfl) (run_lss (k := .i64) (a := 16) (b := 16) (by kernel_rfl) (by kernel_rfl) false (by decide)) ?_
    refine wl_nil ?_
    refine then_at (F := ⟨(.string s :: un :: pt q1 :: pt q4 :: iN .i64 16 :: iN .i64 16 :: .bool false :: u7 7 :: u7 8 :: u7 9 :: u7 10 :: u7 11 :: u7 12 :: u7 13 :: List.replicate 1 un).toArray, []⟩) (by kernel_rfl) ?_
    refine wp_cond_false (by kernel_rfl) ?_
    refine wp_exit ?_
    repeat first | refine then_exit ?_ | refine block_exit ?_ | refine block_exit_ne (by decide) ?_
    refine then_at (F := ⟨(.string s :: un :: pt q1 :: pt q4 :: iN .i64 16 :: iN .i64 16 :: .bool false :: u7 7 :: u7 8 :: u7 9 :: u7 10 :: u7 11 :: u7 12 :: u7 13 :: List.replicate 1 un).toArray, []⟩) (by kernel_rfl) ?_
    refine wp_seq ?_
    -- region 6
    refine wl_region ?_
    refine wl_load h14 0 rfl (by kernel_rfl) (by kernel_rfl) Try.underlying37 rfl (info37 ((bl s).take 16 ++ List.replicate (16 - 16) 0) (ob16 (of_len s hs 16 (by omega)) (by omega))) ?_
    refine wl_fill (c' := bc ((bl s).take 16 ++ List.replicate (16 - 16) 0)) h14 1 rfl (by kernel_rfl) (by kernel_rfl) (by kernel_rfl) (by rw [bc_size, bc_size, (ob16 (of_len s hs 16 (by omega)) (by omega)), (List.length_replicate)]) (info37 ((bl s).take 16 ++ List.replicate (16 - 16) 0) (ob16 (of_len s hs 16 (by omega)) (by omega))) (one_bc ((bl s).take 16 ++ List.replicate (16 - 16) 0)) ?_
    intro w15 (h16 : HA w [(q4, 37, bc ((bl s).take 16 ++ List.replicate (16 - 16) 0)), (q1, 37, bc ((bl s).take 16 ++ List.replicate (16 - 16) 0))] w15)
    refine wl_nil ?_
    refine then_at (F := ⟨(.string s :: un :: pt q1 :: pt q4 :: iN .i64 16 :: iN .i64 16 :: .bool false :: u7 7 :: u7 8 :: u7 9 :: u7 10 :: u7 11 :: u7 12 :: u7 13 :: .agg (bc ((bl s).take 16 ++ List.replicate (16 - 16) 0)) :: List.replicate 0 un).toArray, []⟩) (by kernel_rfl) ?_
    refine wp_ret ?_
    repeat first | refine then_ret ?_ | refine block_ret ?_
    exact bodyPost_ret (v := .agg (bc ((bl s).take 16 ++ List.replicate (16 - 16) 0))) (res_cell (p := 2) (by kernel_rfl) (by kernel_rfl) (h16.get 1 rfl) Try.underlying37 rfl (info37 ((bl s).take 16 ++ List.replicate (16 - 16) 0) (ob16 (of_len s hs 16 (by omega)) (by omega)))) rfl ⟨by rw [of_end s hs], h16.old⟩
end Go.Proofs.Ythljhhhjdajfhaa
