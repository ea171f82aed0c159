/-
  the law's of.
-/
import Derived.Test.YtpaendmdcdeemaaDoorCuX2
namespace Go.Proofs.YtpaendmdcdeemaaDoor
open Go.RowKit Num


def ofL (g : UInt8) (k : Nat) : List UInt8 := 0 :: (List.replicate k g ++ List.replicate (31 - k) 0)
theorem ofL_len (g : UInt8) (k : Nat) (hk : k ≤ 31) : (ofL g k).length = 32 := by
  unfold ofL; rw [List.length_cons, List.length_append, List.length_replicate, List.length_replicate]; omega
theorem ofL_put (g : UInt8) (k : Nat) (hk : k < 31) : (cs (ofL g k)).toArray.setIfInBounds (k + 1) (.int .u8 (g.toNat : Int)) = (cs (ofL g (k + 1))).toArray := by
  rw [cs_set]
  congr 2
  unfold ofL
  rw [List.set_cons_succ, List.set_append_right _ _ (by rw [List.length_replicate]; omega), List.length_replicate, Nat.sub_self]
  have e : 31 - k = (31 - (k + 1)) + 1 := by omega
  rw [e, List.replicate_succ, List.set_cons_zero, List.replicate_succ', List.append_assoc]
  rfl
def ofT (f g : UInt8) : List UInt8 := f :: List.replicate 31 g
theorem ofL_end (f g : UInt8) : (cs (ofL g 31)).toArray.setIfInBounds 0 (.int .u8 (f.toNat : Int)) = (cs (ofT f g)).toArray := by
  rw [cs_set]
  rfl

set_option linter.unusedVariables false in
set_option maxRecDepth 100000 in
set_option maxHeartbeats 2000000 in
theorem of_any (f g : UInt8) (w : World) :
    Calls Tryd.prog 36 #[iN .u8 f.toNat, iN .i64 32, iN .u8 g.toNat] w fun e w' => e = .returned (.string ⟨(ofT f g).toArray⟩) ∧ Below w.heap.size w w' := by
  have H0 := HA.start w
  go_enter Tryd.func36, Tryd.ntmps36
  refine wp_seq ?_
  -- region 0
  refine wl_region ?_
  refine wl_val (.string { data := #[] }) (by kernel_rfl) (by kernel_rfl) ?_
  refine wl_nil ?_
  refine then_at (F := ⟨(iN .u8 f.toNat :: iN .i64 32 :: iN .u8 g.toNat :: un :: un :: un :: .string { data := #[] } :: List.replicate 18 un).toArray, []⟩) (by kernel_rfl) ?_
  refine wp_seq ?_
  -- region 1
  refine wl_region ?_
  refine wl_val (iN .i64 32) (by kernel_rfl) (by kernel_rfl) ?_
  refine wl_mkslice (n := 32) H0 5 (by kernel_rfl) (run_mk 32 (by decide) (by kernel_rfl) (by kernel_rfl)) ?_
  intro q1 w2 h3
  refine wl_val (.slice (some ⟨q1, 0, none⟩) 32 32) (by kernel_rfl) (by kernel_rfl) ?_
  refine wl_nil ?_
  refine then_at (F := ⟨(iN .u8 f.toNat :: iN .i64 32 :: iN .u8 g.toNat :: un :: un :: un :: .string { data := #[] } :: .slice (some ⟨q1, 0, none⟩) 32 32 :: un :: iN .i64 32 :: .slice (some ⟨q1, 0, none⟩) 32 32 :: List.replicate 14 un).toArray, []⟩) (by kernel_rfl) ?_
  refine wp_seq ?_
  refine wp_seq ?_
  -- region 2
  refine wl_region ?_
  refine wl_val (iN .i64 1) (by kernel_rfl) (by kernel_rfl) ?_
  refine wl_nil ?_
  refine then_at (F := ⟨(iN .u8 f.toNat :: iN .i64 32 :: iN .u8 g.toNat :: un :: un :: un :: .string { data := #[] } :: .slice (some ⟨q1, 0, none⟩) 32 32 :: iN .i64 1 :: iN .i64 32 :: .slice (some ⟨q1, 0, none⟩) 32 32 :: List.replicate 14 un).toArray, []⟩) (by kernel_rfl) ?_
  refine wp_block ?_
  refine wp_count (fun k A w' => ∃ u4 : Nat → Value, A = ⟨(iN .u8 f.toNat :: iN .i64 32 :: iN .u8 g.toNat :: un :: un :: un :: .string { data := #[] } :: .slice (some ⟨q1, 0, none⟩) 32 32 :: iN .i64 (k + 1) :: iN .i64 32 :: .slice (some ⟨q1, 0, none⟩) 32 32 :: u4 11 :: u4 12 :: u4 13 :: u4 14 :: u4 15 :: u4 16 :: u4 17 :: u4 18 :: u4 19 :: List.replicate 5 un).toArray, []⟩ ∧ HA w [(q1, 5, (cs (ofL g k)).toArray)] w') 31 ?_ ?_ ?_
  · exact ⟨fun ii => (([(11, undef), (12, undef), (13, undef), (14, undef), (15, undef), (16, undef), (17, undef), (18, undef), (19, undef)] : List (Nat × Value)).find? (·.1 == ii)).elim undef (·.2), by kernel_rfl, (by rw [← (by kernel_rfl : zr 32 = (cs (ofL g 0)).toArray)]; exact h3)⟩
  · rintro k hk _ w5 ⟨u4, rfl, h6⟩
    refine wp_seq ?_
    refine wp_seq ?_
    -- region 3
    refine wl_region ?_
    refine wl_val (iN .i64 (k + 1)) (by kernel_rfl) (by kernel_rfl) ?_
    refine wl_val (iN .i64 32) (by kernel_rfl) (by kernel_rfl) ?_
    refine wl_val (.bool true) (by kernel_rfl) (run_lss (k := .i64) (a := k + 1) (b := 32) (by kernel_rfl) (by kernel_rfl) true (decide_eq_true (by omega))) ?_
    refine wl_nil ?_
    refine then_at (F := ⟨(iN .u8 f.toNat :: iN .i64 32 :: iN .u8 g.toNat :: un :: un :: un :: .string { data := #[] } :: .slice (some ⟨q1, 0, none⟩) 32 32 :: iN .i64 (k + 1) :: iN .i64 32 :: .slice (some ⟨q1, 0, none⟩) 32 32 :: iN .i64 (k + 1) :: iN .i64 32 :: .bool true :: u4 14 :: u4 15 :: u4 16 :: u4 17 :: u4 18 :: u4 19 :: List.replicate 5 un).toArray, []⟩) (by kernel_rfl) ?_
    refine wp_cond_true (by kernel_rfl) ?_
    refine wp_skip ?_
    refine then_at (F := ⟨(iN .u8 f.toNat :: iN .i64 32 :: iN .u8 g.toNat :: un :: un :: un :: .string { data := #[] } :: .slice (some ⟨q1, 0, none⟩) 32 32 :: iN .i64 (k + 1) :: iN .i64 32 :: .slice (some ⟨q1, 0, none⟩) 32 32 :: iN .i64 (k + 1) :: iN .i64 32 :: .bool true :: u4 14 :: u4 15 :: u4 16 :: u4 17 :: u4 18 :: u4 19 :: List.replicate 5 un).toArray, []⟩) (by kernel_rfl) ?_
    refine wp_seq ?_
    refine wp_block ?_
    -- region 5
    refine wl_region ?_
    refine wl_val (.slice (some ⟨q1, 0, none⟩) 32 32) (by kernel_rfl) (by kernel_rfl) ?_
    refine wl_val (iN .i64 (k + 1)) (by kernel_rfl) (by kernel_rfl) ?_
    refine wl_val (iN .u8 g.toNat) (by kernel_rfl) (by kernel_rfl) ?_
    refine wl_val (.pointer (some ⟨q1, k + 1, none⟩)) (by kernel_rfl) (run_addr_slice (q := q1) (n := 32) (m := 32) (a := k + 1) Tryd.underlying60 (fun w => Tryd.sizeOf5 w) (by kernel_rfl) (by kernel_rfl) (by omega)) ?_
    refine wl_put (k := .u8) (z := ((g.toNat : Nat) : Int)) h6 0 rfl (k + 1) (by rw [List.size_toArray, cs_length, ofL_len _ _ (by omega)]; omega) (by kernel_rfl) (fun w => Tryd.sizeOf5 w) (by kernel_rfl) (by kernel_rfl) ?_
    intro w7 h8
    have h9 : HA w [(q1, 5, (cs (ofL g (k + 1))).toArray)] w7 := (by rw [← ofL_put g k hk]; exact h8)
    clear h8
    refine wl_nil ?_
    refine block_normal ?_
    refine then_at (F := ⟨(iN .u8 f.toNat :: iN .i64 32 :: iN .u8 g.toNat :: un :: un :: un :: .string { data := #[] } :: .slice (some ⟨q1, 0, none⟩) 32 32 :: iN .i64 (k + 1) :: iN .i64 32 :: .slice (some ⟨q1, 0, none⟩) 32 32 :: iN .i64 (k + 1) :: iN .i64 32 :: .bool true :: u4 14 :: u4 15 :: .slice (some ⟨q1, 0, none⟩) 32 32 :: iN .i64 (k + 1) :: iN .u8 g.toNat :: .pointer (some ⟨q1, k + 1, none⟩) :: List.replicate 5 un).toArray, []⟩) (by kernel_rfl) ?_
    -- region 4
    refine wl_region ?_
    refine wl_val (iN .i64 (k + 1)) (by kernel_rfl) (by kernel_rfl) ?_
    refine wl_val (iN .i64 ((k + 1) + 1)) (by kernel_rfl) (run_add (k := .i64) (a := k + 1) (b := 1) (by kernel_rfl) (by kernel_rfl) (by simp only [top]; omega)) ?_
    refine wl_val (iN .i64 ((k + 1) + 1)) (by kernel_rfl) (by kernel_rfl) ?_
    refine wl_nil ?_
    exact then_I ⟨fun ii => (([(11, iN .i64 (k + 1)), (12, iN .i64 32), (13, .bool true), (14, iN .i64 (k + 1)), (15, iN .i64 ((k + 1) + 1)), (16, .slice (some ⟨q1, 0, none⟩) 32 32), (17, iN .i64 (k + 1)), (18, iN .u8 g.toNat), (19, .pointer (some ⟨q1, k + 1, none⟩))] : List (Nat × Value)).find? (·.1 == ii)).elim undef (·.2), by kernel_rfl, h9⟩
  · rintro _ w10 ⟨u4, rfl, h11⟩
    refine wp_seq ?_
    refine wp_seq ?_
    -- region 3
    refine wl_region ?_
    refine wl_val (iN .i64 (31 + 1)) (by kernel_rfl) (by kernel_rfl) ?_
    refine wl_val (iN .i64 32) (by kernel_rfl) (by kernel_rfl) ?_
    refine wl_val (.bool false) (by kernel_rfl) (run_lss (k := .i64) (a := 31 + 1) (b := 32) (by kernel_rfl) (by kernel_rfl) false (by decide)) ?_
    refine wl_nil ?_
    refine then_at (F := ⟨(iN .u8 f.toNat :: iN .i64 32 :: iN .u8 g.toNat :: un :: un :: un :: .string { data := #[] } :: .slice (some ⟨q1, 0, none⟩) 32 32 :: iN .i64 (31 + 1) :: iN .i64 32 :: .slice (some ⟨q1, 0, none⟩) 32 32 :: iN .i64 (31 + 1) :: iN .i64 32 :: .bool false :: u4 14 :: u4 15 :: u4 16 :: u4 17 :: u4 18 :: u4 19 :: List.replicate 5 un).toArray, []⟩) (by kernel_rfl) ?_
    refine wp_cond_false (by kernel_rfl) ?_
    refine wp_exit ?_
    repeat first | refine then_exit ?_ | refine block_exit ?_ | refine block_exit_ne (by decide) ?_
    refine then_at (F := ⟨(iN .u8 f.toNat :: iN .i64 32 :: iN .u8 g.toNat :: un :: un :: un :: .string { data := #[] } :: .slice (some ⟨q1, 0, none⟩) 32 32 :: iN .i64 (31 + 1) :: iN .i64 32 :: .slice (some ⟨q1, 0, none⟩) 32 32 :: iN .i64 (31 + 1) :: iN .i64 32 :: .bool false :: u4 14 :: u4 15 :: u4 16 :: u4 17 :: u4 18 :: u4 19 :: List.replicate 5 un).toArray, []⟩) (by kernel_rfl) ?_
    refine wp_seq ?_
    -- region 6
    refine wl_region ?_
    refine wl_val (.slice (some ⟨q1, 0, none⟩) 32 32) (by kernel_rfl) (by kernel_rfl) ?_
    refine wl_val (iN .u8 f.toNat) (by kernel_rfl) (by kernel_rfl) ?_
    refine wl_val (.pointer (some ⟨q1, 0, none⟩)) (by kernel_rfl) (run_addr_slice (q := q1) (n := 32) (m := 32) (a := 0) Tryd.underlying60 (fun w => Tryd.sizeOf5 w) (by kernel_rfl) (by kernel_rfl) (by decide)) ?_
    refine wl_put (k := .u8) (z := ((f.toNat : Nat) : Int)) h11 0 rfl 0 (by rw [List.size_toArray, cs_length, ofL_len _ _ (by omega)]; omega) (by kernel_rfl) (fun w => Tryd.sizeOf5 w) (by kernel_rfl) (by kernel_rfl) ?_
    intro w12 h13
    have h14 : HA w [(q1, 5, (cs (ofT f g)).toArray)] w12 := (by rw [← ofL_end f g]; exact h13)
    clear h13
    refine wl_nil ?_
    refine then_at (F := ⟨(iN .u8 f.toNat :: iN .i64 32 :: iN .u8 g.toNat :: un :: un :: un :: .string { data := #[] } :: .slice (some ⟨q1, 0, none⟩) 32 32 :: iN .i64 (31 + 1) :: iN .i64 32 :: .slice (some ⟨q1, 0, none⟩) 32 32 :: iN .i64 (31 + 1) :: iN .i64 32 :: .bool false :: u4 14 :: u4 15 :: u4 16 :: u4 17 :: u4 18 :: u4 19 :: .slice (some ⟨q1, 0, none⟩) 32 32 :: iN .u8 f.toNat :: pt q1 :: List.replicate 2 un).toArray, []⟩) (by kernel_rfl) ?_
    refine wp_seq ?_
    -- region 7
    refine wl_region ?_
    refine wl_val (.slice (some ⟨q1, 0, none⟩) 32 32) (by kernel_rfl) (by kernel_rfl) ?_
    refine wl_val (.string ⟨(ofT f g).toArray⟩) (by kernel_rfl) (run_text (ofT f g) (by kernel_rfl) (h14.get 0 rfl) rfl rfl) ?_
    refine wl_val (.string ⟨(ofT f g).toArray⟩) (by kernel_rfl) (by kernel_rfl) ?_
    refine wl_nil ?_
    refine then_at (F := ⟨(iN .u8 f.toNat :: iN .i64 32 :: iN .u8 g.toNat :: un :: un :: un :: .string ⟨(ofT f g).toArray⟩ :: .slice (some ⟨q1, 0, none⟩) 32 32 :: iN .i64 (31 + 1) :: iN .i64 32 :: .slice (some ⟨q1, 0, none⟩) 32 32 :: iN .i64 (31 + 1) :: iN .i64 32 :: .bool false :: u4 14 :: u4 15 :: u4 16 :: u4 17 :: u4 18 :: u4 19 :: .slice (some ⟨q1, 0, none⟩) 32 32 :: iN .u8 f.toNat :: pt q1 :: .slice (some ⟨q1, 0, none⟩) 32 32 :: .string ⟨(ofT f g).toArray⟩ :: List.replicate 0 un).toArray, []⟩) (by kernel_rfl) ?_
    refine wp_ret ?_
    repeat first | refine then_ret ?_ | refine block_ret ?_
    exact bodyPost_ret (v := .string ⟨(ofT f g).toArray⟩) (by kernel_rfl) rfl ⟨rfl, h14.old⟩
end Go.Proofs.YtpaendmdcdeemaaDoor
