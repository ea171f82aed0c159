/-
  ends: a byte, 30 bytes 255, a byte.
-/
import Derived.Test.YtbmfmamhidccbaaDoorStr
namespace Go.Proofs.YtbmfmamhidccbaaDoor
open Go.RowKit Num

set_option maxRecDepth 100000 in
theorem ends_any (f l : UInt8) (w : World) :
    Calls Tryd.prog 35 #[iN .u8 f.toNat, iN .u8 l.toNat] w fun e w' => e = .returned (.string ⟨(endsL f l).toArray⟩) ∧ Below w.heap.size w w' := by
  have H0 := HA.start w
  go_enter Tryd.func35, Tryd.ntmps35
  refine wp_seq ?_
  -- region 0
  refine wl_region ?_
  refine wl_val (.string { data := #[] }) (by kernel_rfl) (by kernel_rfl) ?_
  refine wl_nil ?_
  refine then_at (F := ⟨(iN .u8 f.toNat :: iN .u8 l.toNat :: un :: un :: .string { data := #[] } :: List.replicate 18 un).toArray, []⟩) (by kernel_rfl) ?_
  refine wp_seq ?_
  -- region 1
  refine wl_region ?_
  refine wl_mkslice (n := 32) H0 5 (by kernel_rfl) (run_mk 32 (by decide) (by kernel_rfl) (by kernel_rfl)) ?_
  intro q1 w2 h3
  refine wl_val (.slice (some ⟨q1, 0, none⟩) 32 32) (by kernel_rfl) (by kernel_rfl) ?_
  refine wl_nil ?_
  refine then_at (F := ⟨(iN .u8 f.toNat :: iN .u8 l.toNat :: un :: un :: .string { data := #[] } :: .slice (some ⟨q1, 0, none⟩) 32 32 :: un :: .slice (some ⟨q1, 0, none⟩) 32 32 :: List.replicate 15 un).toArray, []⟩) (by kernel_rfl) ?_
  refine wp_seq ?_
  refine wp_seq ?_
  -- region 2
  refine wl_region ?_
  refine wl_val (iN .i64 0) (by kernel_rfl) (by kernel_rfl) ?_
  refine wl_nil ?_
  refine then_at (F := ⟨(iN .u8 f.toNat :: iN .u8 l.toNat :: un :: un :: .string { data := #[] } :: .slice (some ⟨q1, 0, none⟩) 32 32 :: iN .i64 0 :: .slice (some ⟨q1, 0, none⟩) 32 32 :: List.replicate 15 un).toArray, []⟩) (by kernel_rfl) ?_
  refine wp_block ?_
  refine wp_count (fun k A w' => ∃ u : Nat → Value, A = ⟨(iN .u8 f.toNat :: iN .u8 l.toNat :: un :: un :: .string { data := #[] } :: .slice (some ⟨q1, 0, none⟩) 32 32 :: iN .i64 k :: .slice (some ⟨q1, 0, none⟩) 32 32 :: u 8 :: u 9 :: u 10 :: u 11 :: u 12 :: u 13 :: u 14 :: List.replicate 8 un).toArray, []⟩ ∧ HA w [(q1, 5, ff k)] w') 32 ?_ ?_ ?_
  · exact ⟨fun i => (([(8, undef), (9, undef), (10, undef), (11, undef), (12, undef), (13, undef), (14, undef)] : List (Nat × Value)).find? (·.1 == i)).elim undef (·.2), by kernel_rfl, (by rw [← (by kernel_rfl : zr 32 = ff 0)]; exact h3)⟩
  · rintro k hk _ w4 ⟨u, rfl, h5⟩
    refine wp_seq ?_
    refine wp_seq ?_
    -- region 3
    refine wl_region ?_
    refine wl_val (iN .i64 k) (by kernel_rfl) (by kernel_rfl) ?_
    refine wl_val (.bool true) (by kernel_rfl) (run_lss (k := .i64) (a := k) (b := 32) (by kernel_rfl) (by kernel_rfl) true (decide_eq_true hk)) ?_
    refine wl_nil ?_
    refine then_at (F := ⟨(iN .u8 f.toNat :: iN .u8 l.toNat :: un :: un :: .string { data := #[] } :: .slice (some ⟨q1, 0, none⟩) 32 32 :: iN .i64 k :: .slice (some ⟨q1, 0, none⟩) 32 32 :: iN .i64 k :: .bool true :: u 10 :: u 11 :: u 12 :: u 13 :: u 14 :: List.replicate 8 un).toArray, []⟩) (by kernel_rfl) ?_
    refine wp_cond_true (by kernel_rfl) ?_
    refine wp_skip ?_
    refine then_at (F := ⟨(iN .u8 f.toNat :: iN .u8 l.toNat :: un :: un :: .string { data := #[] } :: .slice (some ⟨q1, 0, none⟩) 32 32 :: iN .i64 k :: .slice (some ⟨q1, 0, none⟩) 32 32 :: iN .i64 k :: .bool true :: u 10 :: u 11 :: u 12 :: u 13 :: u 14 :: List.replicate 8 un).toArray, []⟩) (by kernel_rfl) ?_
    refine wp_seq ?_
    refine wp_block ?_
    -- region 5
    refine wl_region ?_
    refine wl_val (.slice (some ⟨q1, 0, none⟩) 32 32) (by kernel_rfl) (by kernel_rfl) ?_
    refine wl_val (iN .i64 k) (by kernel_rfl) (by kernel_rfl) ?_
    refine wl_val (.pointer (some ⟨q1, k, none⟩)) (by kernel_rfl) (run_addr_slice (q := q1) (n := 32) (m := 32) (a := k) Tryd.underlying55 (fun w => Tryd.sizeOf5 w) (by kernel_rfl) (by kernel_rfl) (by omega)) ?_
    refine wl_put (k := .u8) (z := ((255 : Nat) : Int)) h5 0 rfl k (by rw [ff_size k (by omega)]; exact hk) (by kernel_rfl) (fun w => Tryd.sizeOf5 w) (by kernel_rfl) (by kernel_rfl) ?_
    intro w6 h7
    have h8 : HA w [(q1, 5, ff (k + 1))] w6 := (by have := ff_put k hk; rw [← this]; exact h7)
    clear h7
    refine wl_nil ?_
    refine block_normal ?_
    refine then_at (F := ⟨(iN .u8 f.toNat :: iN .u8 l.toNat :: un :: un :: .string { data := #[] } :: .slice (some ⟨q1, 0, none⟩) 32 32 :: iN .i64 k :: .slice (some ⟨q1, 0, none⟩) 32 32 :: iN .i64 k :: .bool true :: u 10 :: u 11 :: .slice (some ⟨q1, 0, none⟩) 32 32 :: iN .i64 k :: .pointer (some ⟨q1, k, none⟩) :: List.replicate 8 un).toArray, []⟩) (by kernel_rfl) ?_
    -- region 4
    refine wl_region ?_
    refine wl_val (iN .i64 k) (by kernel_rfl) (by kernel_rfl) ?_
    refine wl_val (iN .i64 (k + 1)) (by kernel_rfl) (run_add (k := .i64) (a := k) (b := 1) (by kernel_rfl) (by kernel_rfl) (by simp only [top]; omega)) ?_
    refine wl_val (iN .i64 (k + 1)) (by kernel_rfl) (by kernel_rfl) ?_
    refine wl_nil ?_
    exact then_I ⟨fun i => (([(8, iN .i64 k), (9, .bool true), (10, iN .i64 k), (11, iN .i64 (k + 1)), (12, .slice (some ⟨q1, 0, none⟩) 32 32), (13, iN .i64 k), (14, .pointer (some ⟨q1, k, none⟩))] : List (Nat × Value)).find? (·.1 == i)).elim undef (·.2), by kernel_rfl, h8⟩
  · rintro _ w9 ⟨u, rfl, h10⟩
    refine wp_seq ?_
    refine wp_seq ?_
    -- region 3
    refine wl_region ?_
    refine wl_val (iN .i64 32) (by kernel_rfl) (by kernel_rfl) ?_
    refine wl_val (.bool false) (by kernel_rfl) (run_lss (k := .i64) (a := 32) (b := 32) (by kernel_rfl) (by kernel_rfl) false (by decide)) ?_
    refine wl_nil ?_
    refine then_at (F := ⟨(iN .u8 f.toNat :: iN .u8 l.toNat :: un :: un :: .string { data := #[] } :: .slice (some ⟨q1, 0, none⟩) 32 32 :: iN .i64 32 :: .slice (some ⟨q1, 0, none⟩) 32 32 :: iN .i64 32 :: .bool false :: u 10 :: u 11 :: u 12 :: u 13 :: u 14 :: List.replicate 8 un).toArray, []⟩) (by kernel_rfl) ?_
    refine wp_cond_false (by kernel_rfl) ?_
    refine wp_exit ?_
    repeat first | refine then_exit ?_ | refine block_exit ?_ | refine block_exit_ne (by decide) ?_
    refine then_at (F := ⟨(iN .u8 f.toNat :: iN .u8 l.toNat :: un :: un :: .string { data := #[] } :: .slice (some ⟨q1, 0, none⟩) 32 32 :: iN .i64 32 :: .slice (some ⟨q1, 0, none⟩) 32 32 :: iN .i64 32 :: .bool false :: u 10 :: u 11 :: u 12 :: u 13 :: u 14 :: List.replicate 8 un).toArray, []⟩) (by kernel_rfl) ?_
    refine wp_seq ?_
    -- region 6
    refine wl_region ?_
    refine wl_val (.slice (some ⟨q1, 0, none⟩) 32 32) (by kernel_rfl) (by kernel_rfl) ?_
    refine wl_val (iN .u8 f.toNat) (by kernel_rfl) (by kernel_rfl) ?_
    refine wl_val (.pointer (some ⟨q1, 0, none⟩)) (by kernel_rfl) (run_addr_slice (q := q1) (n := 32) (m := 32) (a := 0) Tryd.underlying55 (fun w => Tryd.sizeOf5 w) (by kernel_rfl) (by kernel_rfl) (by decide)) ?_
    refine wl_put (k := .u8) (z := ((f.toNat : Nat) : Int)) h10 0 rfl 0 (by decide) (by kernel_rfl) (fun w => Tryd.sizeOf5 w) (by kernel_rfl) (by kernel_rfl) ?_
    intro w11 h12
    have h13 : HA w [(q1, 5, (ff 32).setIfInBounds 0 (iN .u8 f.toNat))] w11 := h12
    clear h12
    refine wl_nil ?_
    refine then_at (F := ⟨(iN .u8 f.toNat :: iN .u8 l.toNat :: un :: un :: .string { data := #[] } :: .slice (some ⟨q1, 0, none⟩) 32 32 :: iN .i64 32 :: .slice (some ⟨q1, 0, none⟩) 32 32 :: iN .i64 32 :: .bool false :: u 10 :: u 11 :: u 12 :: u 13 :: u 14 :: .slice (some ⟨q1, 0, none⟩) 32 32 :: iN .u8 f.toNat :: pt q1 :: List.replicate 5 un).toArray, []⟩) (by kernel_rfl) ?_
    refine wp_seq ?_
    -- region 7
    refine wl_region ?_
    refine wl_val (.slice (some ⟨q1, 0, none⟩) 32 32) (by kernel_rfl) (by kernel_rfl) ?_
    refine wl_val (iN .u8 l.toNat) (by kernel_rfl) (by kernel_rfl) ?_
    refine wl_val (.pointer (some ⟨q1, 31, none⟩)) (by kernel_rfl) (run_addr_slice (q := q1) (n := 32) (m := 32) (a := 31) Tryd.underlying55 (fun w => Tryd.sizeOf5 w) (by kernel_rfl) (by kernel_rfl) (by decide)) ?_
    refine wl_put (k := .u8) (z := ((l.toNat : Nat) : Int)) h13 0 rfl 31 (by rw [Array.size_setIfInBounds, ff_size 32 (by decide)]; decide) (by kernel_rfl) (fun w => Tryd.sizeOf5 w) (by kernel_rfl) (by kernel_rfl) ?_
    intro w14 h15
    have h16 : HA w [(q1, 5, (cs (endsL f l)).toArray)] w14 := (by rw [← ff_ends]; exact h15)
    clear h15
    refine wl_nil ?_
    refine then_at (F := ⟨(iN .u8 f.toNat :: iN .u8 l.toNat :: un :: un :: .string { data := #[] } :: .slice (some ⟨q1, 0, none⟩) 32 32 :: iN .i64 32 :: .slice (some ⟨q1, 0, none⟩) 32 32 :: iN .i64 32 :: .bool false :: u 10 :: u 11 :: u 12 :: u 13 :: u 14 :: .slice (some ⟨q1, 0, none⟩) 32 32 :: iN .u8 f.toNat :: pt q1 :: .slice (some ⟨q1, 0, none⟩) 32 32 :: iN .u8 l.toNat :: .pointer (some ⟨q1, 31, none⟩) :: List.replicate 2 un).toArray, []⟩) (by kernel_rfl) ?_
    refine wp_seq ?_
    -- region 8
    refine wl_region ?_
    refine wl_val (.slice (some ⟨q1, 0, none⟩) 32 32) (by kernel_rfl) (by kernel_rfl) ?_
    refine wl_val (.string ⟨(endsL f l).toArray⟩) (by kernel_rfl) (run_text (endsL f l) (by kernel_rfl) (h16.get 0 rfl) rfl rfl) ?_
    refine wl_val (.string ⟨(endsL f l).toArray⟩) (by kernel_rfl) (by kernel_rfl) ?_
    refine wl_nil ?_
    refine then_at (F := ⟨(iN .u8 f.toNat :: iN .u8 l.toNat :: un :: un :: .string ⟨(endsL f l).toArray⟩ :: .slice (some ⟨q1, 0, none⟩) 32 32 :: iN .i64 32 :: .slice (some ⟨q1, 0, none⟩) 32 32 :: iN .i64 32 :: .bool false :: u 10 :: u 11 :: u 12 :: u 13 :: u 14 :: .slice (some ⟨q1, 0, none⟩) 32 32 :: iN .u8 f.toNat :: pt q1 :: .slice (some ⟨q1, 0, none⟩) 32 32 :: iN .u8 l.toNat :: .pointer (some ⟨q1, 31, none⟩) :: .slice (some ⟨q1, 0, none⟩) 32 32 :: .string ⟨(endsL f l).toArray⟩ :: List.replicate 0 un).toArray, []⟩) (by kernel_rfl) ?_
    refine wp_ret ?_
    repeat first | refine then_ret ?_ | refine block_ret ?_
    exact bodyPost_ret (v := .string ⟨(endsL f l).toArray⟩) (by kernel_rfl) rfl ⟨rfl, h16.old⟩
end Go.Proofs.YtbmfmamhidccbaaDoor
