/-
  the examples: what is reckoned.
-/
import Derived.Test.YtpaendmdcdeemaaDoorCvX
import Derived.Test.YtpaendmdcdeemaaDoorCuX3
namespace Go.Proofs.YtpaendmdcdeemaaDoor
open Go.RowKit Num


def ofL31 (g : UInt8) (k : Nat) : List UInt8 := 0 :: (List.replicate k g ++ List.replicate (30 - k) 0)
theorem ofL31_len (g : UInt8) (k : Nat) (hk : k ≤ 30) : (ofL31 g k).length = 31 := by
  unfold ofL31; rw [List.length_cons, List.length_append, List.length_replicate, List.length_replicate]; omega
theorem ofL31_put (g : UInt8) (k : Nat) (hk : k < 30) : (cs (ofL31 g k)).toArray.setIfInBounds (k + 1) (.int .u8 (g.toNat : Int)) = (cs (ofL31 g (k + 1))).toArray := by
  rw [cs_set]
  congr 2
  unfold ofL31
  rw [List.set_cons_succ, List.set_append_right _ _ (by rw [List.length_replicate]; omega), List.length_replicate, Nat.sub_self]
  have e : 30 - k = (30 - (k + 1)) + 1 := by omega
  rw [e, List.replicate_succ, List.set_cons_zero, List.replicate_succ', List.append_assoc]
  rfl
def ofT31 (f g : UInt8) : List UInt8 := f :: List.replicate 30 g
theorem ofL31_end (f g : UInt8) : (cs (ofL31 g 30)).toArray.setIfInBounds 0 (.int .u8 (f.toNat : Int)) = (cs (ofT31 f g)).toArray := by
  rw [cs_set]
  rfl

set_option linter.unusedVariables false in
set_option maxRecDepth 100000 in
set_option maxHeartbeats 2000000 in
theorem of_any31 (f g : UInt8) (w : World) :
    Calls Tryd.prog 36 #[iN .u8 f.toNat, iN .i64 31, iN .u8 g.toNat] w fun e w' => e = .returned (.string ⟨(ofT31 f g).toArray⟩) ∧ Below w.heap.size w w' := by
  have H0 := HA.start w
  go_enter Tryd.func36, Tryd.ntmps36
  refine wp_seq ?_
  -- region 0
  refine wl_region ?_
  refine wl_val (.string { data := #[] }) (by kernel_rfl) (by kernel_rfl) ?_
  refine wl_nil ?_
  refine then_at (F := ⟨(iN .u8 f.toNat :: iN .i64 31 :: iN .u8 g.toNat :: un :: un :: un :: .string { data := #[] } :: List.replicate 18 un).toArray, []⟩) (by kernel_rfl) ?_
  refine wp_seq ?_
  -- region 1
  refine wl_region ?_
  refine wl_val (iN .i64 31) (by kernel_rfl) (by kernel_rfl) ?_
  refine wl_mkslice (n := 31) H0 5 (by kernel_rfl) (run_mk 31 (by decide) (by kernel_rfl) (by kernel_rfl)) ?_
  intro q1 w2 h3
  refine wl_val (.slice (some ⟨q1, 0, none⟩) 31 31) (by kernel_rfl) (by kernel_rfl) ?_
  refine wl_nil ?_
  refine then_at (F := ⟨(iN .u8 f.toNat :: iN .i64 31 :: iN .u8 g.toNat :: un :: un :: un :: .string { data := #[] } :: .slice (some ⟨q1, 0, none⟩) 31 31 :: un :: iN .i64 31 :: .slice (some ⟨q1, 0, none⟩) 31 31 :: List.replicate 14 un).toArray, []⟩) (by kernel_rfl) ?_
  refine wp_seq ?_
  refine wp_seq ?_
  -- region 2
  refine wl_region ?_
  refine wl_val (iN .i64 1) (by kernel_rfl) (by kernel_rfl) ?_
  refine wl_nil ?_
  refine then_at (F := ⟨(iN .u8 f.toNat :: iN .i64 31 :: iN .u8 g.toNat :: un :: un :: un :: .string { data := #[] } :: .slice (some ⟨q1, 0, none⟩) 31 31 :: iN .i64 1 :: iN .i64 31 :: .slice (some ⟨q1, 0, none⟩) 31 31 :: List.replicate 14 un).toArray, []⟩) (by kernel_rfl) ?_
  refine wp_block ?_
  refine wp_count (fun k A w' => ∃ u4 : Nat → Value, A = ⟨(iN .u8 f.toNat :: iN .i64 31 :: iN .u8 g.toNat :: un :: un :: un :: .string { data := #[] } :: .slice (some ⟨q1, 0, none⟩) 31 31 :: iN .i64 (k + 1) :: iN .i64 31 :: .slice (some ⟨q1, 0, none⟩) 31 31 :: u4 11 :: u4 12 :: u4 13 :: u4 14 :: u4 15 :: u4 16 :: u4 17 :: u4 18 :: u4 19 :: List.replicate 5 un).toArray, []⟩ ∧ HA w [(q1, 5, (cs (ofL31 g k)).toArray)] w') 30 ?_ ?_ ?_
  · exact ⟨fun ii => (([(11, undef), (12, undef), (13, undef), (14, undef), (15, undef), (16, undef), (17, undef), (18, undef), (19, undef)] : List (Nat × Value)).find? (·.1 == ii)).elim undef (·.2), by kernel_rfl, (by rw [← (by kernel_rfl : zr 31 = (cs (ofL31 g 0)).toArray)]; exact h3)⟩
  · rintro k hk _ w5 ⟨u4, rfl, h6⟩
    refine wp_seq ?_
    refine wp_seq ?_
    -- region 3
    refine wl_region ?_
    refine wl_val (iN .i64 (k + 1)) (by kernel_rfl) (by kernel_rfl) ?_
    refine wl_val (iN .i64 31) (by kernel_rfl) (by kernel_rfl) ?_
    refine wl_val (.bool true) (by kernel_rfl) (run_lss (k := .i64) (a := k + 1) (b := 31) (by kernel_rfl) (by kernel_rfl) true (decide_eq_true (by omega))) ?_
    refine wl_nil ?_
    refine then_at (F := ⟨(iN .u8 f.toNat :: iN .i64 31 :: iN .u8 g.toNat :: un :: un :: un :: .string { data := #[] } :: .slice (some ⟨q1, 0, none⟩) 31 31 :: iN .i64 (k + 1) :: iN .i64 31 :: .slice (some ⟨q1, 0, none⟩) 31 31 :: iN .i64 (k + 1) :: iN .i64 31 :: .bool true :: u4 14 :: u4 15 :: u4 16 :: u4 17 :: u4 18 :: u4 19 :: List.replicate 5 un).toArray, []⟩) (by kernel_rfl) ?_
    refine wp_cond_true (by kernel_rfl) ?_
    refine wp_skip ?_
    refine then_at (F := ⟨(iN .u8 f.toNat :: iN .i64 31 :: iN .u8 g.toNat :: un :: un :: un :: .string { data := #[] } :: .slice (some ⟨q1, 0, none⟩) 31 31 :: iN .i64 (k + 1) :: iN .i64 31 :: .slice (some ⟨q1, 0, none⟩) 31 31 :: iN .i64 (k + 1) :: iN .i64 31 :: .bool true :: u4 14 :: u4 15 :: u4 16 :: u4 17 :: u4 18 :: u4 19 :: List.replicate 5 un).toArray, []⟩) (by kernel_rfl) ?_
    refine wp_seq ?_
    refine wp_block ?_
    -- region 5
    refine wl_region ?_
    refine wl_val (.slice (some ⟨q1, 0, none⟩) 31 31) (by kernel_rfl) (by kernel_rfl) ?_
    refine wl_val (iN .i64 (k + 1)) (by kernel_rfl) (by kernel_rfl) ?_
    refine wl_val (iN .u8 g.toNat) (by kernel_rfl) (by kernel_rfl) ?_
    refine wl_val (.pointer (some ⟨q1, k + 1, none⟩)) (by kernel_rfl) (run_addr_slice (q := q1) (n := 31) (m := 31) (a := k + 1) Tryd.underlying60 (fun w => Tryd.sizeOf5 w) (by kernel_rfl) (by kernel_rfl) (by omega)) ?_
    refine wl_put (k := .u8) (z := ((g.toNat : Nat) : Int)) h6 0 rfl (k + 1) (by rw [List.size_toArray, cs_length, ofL31_len _ _ (by omega)]; omega) (by kernel_rfl) (fun w => Tryd.sizeOf5 w) (by kernel_rfl) (by kernel_rfl) ?_
    intro w7 h8
    have h9 : HA w [(q1, 5, (cs (ofL31 g (k + 1))).toArray)] w7 := (by rw [← ofL31_put g k hk]; exact h8)
    clear h8
    refine wl_nil ?_
    refine block_normal ?_
    refine then_at (F := ⟨(iN .u8 f.toNat :: iN .i64 31 :: iN .u8 g.toNat :: un :: un :: un :: .string { data := #[] } :: .slice (some ⟨q1, 0, none⟩) 31 31 :: iN .i64 (k + 1) :: iN .i64 31 :: .slice (some ⟨q1, 0, none⟩) 31 31 :: iN .i64 (k + 1) :: iN .i64 31 :: .bool true :: u4 14 :: u4 15 :: .slice (some ⟨q1, 0, none⟩) 31 31 :: iN .i64 (k + 1) :: iN .u8 g.toNat :: .pointer (some ⟨q1, k + 1, none⟩) :: List.replicate 5 un).toArray, []⟩) (by kernel_rfl) ?_
    -- region 4
    refine wl_region ?_
    refine wl_val (iN .i64 (k + 1)) (by kernel_rfl) (by kernel_rfl) ?_
    refine wl_val (iN .i64 ((k + 1) + 1)) (by kernel_rfl) (run_add (k := .i64) (a := k + 1) (b := 1) (by kernel_rfl) (by kernel_rfl) (by simp only [top]; omega)) ?_
    refine wl_val (iN .i64 ((k + 1) + 1)) (by kernel_rfl) (by kernel_rfl) ?_
    refine wl_nil ?_
    exact then_I ⟨fun ii => (([(11, iN .i64 (k + 1)), (12, iN .i64 31), (13, .bool true), (14, iN .i64 (k + 1)), (15, iN .i64 ((k + 1) + 1)), (16, .slice (some ⟨q1, 0, none⟩) 31 31), (17, iN .i64 (k + 1)), (18, iN .u8 g.toNat), (19, .pointer (some ⟨q1, k + 1, none⟩))] : List (Nat × Value)).find? (·.1 == ii)).elim undef (·.2), by kernel_rfl, h9⟩
  · rintro _ w10 ⟨u4, rfl, h11⟩
    refine wp_seq ?_
    refine wp_seq ?_
    -- region 3
    refine wl_region ?_
    refine wl_val (iN .i64 (30 + 1)) (by kernel_rfl) (by kernel_rfl) ?_
    refine wl_val (iN .i64 31) (by kernel_rfl) (by kernel_rfl) ?_
    refine wl_val (.bool false) (by kernel_rfl) (run_lss (k := .i64) (a := 30 + 1) (b := 31) (by kernel_rfl) (by kernel_rfl) false (by decide)) ?_
    refine wl_nil ?_
    refine then_at (F := ⟨(iN .u8 f.toNat :: iN .i64 31 :: iN .u8 g.toNat :: un :: un :: un :: .string { data := #[] } :: .slice (some ⟨q1, 0, none⟩) 31 31 :: iN .i64 (30 + 1) :: iN .i64 31 :: .slice (some ⟨q1, 0, none⟩) 31 31 :: iN .i64 (30 + 1) :: iN .i64 31 :: .bool false :: u4 14 :: u4 15 :: u4 16 :: u4 17 :: u4 18 :: u4 19 :: List.replicate 5 un).toArray, []⟩) (by kernel_rfl) ?_
    refine wp_cond_false (by kernel_rfl) ?_
    refine wp_exit ?_
    repeat first | refine then_exit ?_ | refine block_exit ?_ | refine block_exit_ne (by decide) ?_
    refine then_at (F := ⟨(iN .u8 f.toNat :: iN .i64 31 :: iN .u8 g.toNat :: un :: un :: un :: .string { data := #[] } :: .slice (some ⟨q1, 0, none⟩) 31 31 :: iN .i64 (30 + 1) :: iN .i64 31 :: .slice (some ⟨q1, 0, none⟩) 31 31 :: iN .i64 (30 + 1) :: iN .i64 31 :: .bool false :: u4 14 :: u4 15 :: u4 16 :: u4 17 :: u4 18 :: u4 19 :: List.replicate 5 un).toArray, []⟩) (by kernel_rfl) ?_
    refine wp_seq ?_
    -- region 6
    refine wl_region ?_
    refine wl_val (.slice (some ⟨q1, 0, none⟩) 31 31) (by kernel_rfl) (by kernel_rfl) ?_
    refine wl_val (iN .u8 f.toNat) (by kernel_rfl) (by kernel_rfl) ?_
    refine wl_val (.pointer (some ⟨q1, 0, none⟩)) (by kernel_rfl) (run_addr_slice (q := q1) (n := 31) (m := 31) (a := 0) Tryd.underlying60 (fun w => Tryd.sizeOf5 w) (by kernel_rfl) (by kernel_rfl) (by decide)) ?_
    refine wl_put (k := .u8) (z := ((f.toNat : Nat) : Int)) h11 0 rfl 0 (by rw [List.size_toArray, cs_length, ofL31_len _ _ (by omega)]; omega) (by kernel_rfl) (fun w => Tryd.sizeOf5 w) (by kernel_rfl) (by kernel_rfl) ?_
    intro w12 h13
    have h14 : HA w [(q1, 5, (cs (ofT31 f g)).toArray)] w12 := (by rw [← ofL31_end f g]; exact h13)
    clear h13
    refine wl_nil ?_
    refine then_at (F := ⟨(iN .u8 f.toNat :: iN .i64 31 :: iN .u8 g.toNat :: un :: un :: un :: .string { data := #[] } :: .slice (some ⟨q1, 0, none⟩) 31 31 :: iN .i64 (30 + 1) :: iN .i64 31 :: .slice (some ⟨q1, 0, none⟩) 31 31 :: iN .i64 (30 + 1) :: iN .i64 31 :: .bool false :: u4 14 :: u4 15 :: u4 16 :: u4 17 :: u4 18 :: u4 19 :: .slice (some ⟨q1, 0, none⟩) 31 31 :: iN .u8 f.toNat :: pt q1 :: List.replicate 2 un).toArray, []⟩) (by kernel_rfl) ?_
    refine wp_seq ?_
    -- region 7
    refine wl_region ?_
    refine wl_val (.slice (some ⟨q1, 0, none⟩) 31 31) (by kernel_rfl) (by kernel_rfl) ?_
    refine wl_val (.string ⟨(ofT31 f g).toArray⟩) (by kernel_rfl) (run_text (ofT31 f g) (by kernel_rfl) (h14.get 0 rfl) rfl rfl) ?_
    refine wl_val (.string ⟨(ofT31 f g).toArray⟩) (by kernel_rfl) (by kernel_rfl) ?_
    refine wl_nil ?_
    refine then_at (F := ⟨(iN .u8 f.toNat :: iN .i64 31 :: iN .u8 g.toNat :: un :: un :: un :: .string ⟨(ofT31 f g).toArray⟩ :: .slice (some ⟨q1, 0, none⟩) 31 31 :: iN .i64 (30 + 1) :: iN .i64 31 :: .slice (some ⟨q1, 0, none⟩) 31 31 :: iN .i64 (30 + 1) :: iN .i64 31 :: .bool false :: u4 14 :: u4 15 :: u4 16 :: u4 17 :: u4 18 :: u4 19 :: .slice (some ⟨q1, 0, none⟩) 31 31 :: iN .u8 f.toNat :: pt q1 :: .slice (some ⟨q1, 0, none⟩) 31 31 :: .string ⟨(ofT31 f g).toArray⟩ :: List.replicate 0 un).toArray, []⟩) (by kernel_rfl) ?_
    refine wp_ret ?_
    repeat first | refine then_ret ?_ | refine block_ret ?_
    exact bodyPost_ret (v := .string ⟨(ofT31 f g).toArray⟩) (by kernel_rfl) rfl ⟨rfl, h14.old⟩

def ofL33 (g : UInt8) (k : Nat) : List UInt8 := 0 :: (List.replicate k g ++ List.replicate (32 - k) 0)
theorem ofL33_len (g : UInt8) (k : Nat) (hk : k ≤ 32) : (ofL33 g k).length = 33 := by
  unfold ofL33; rw [List.length_cons, List.length_append, List.length_replicate, List.length_replicate]; omega
theorem ofL33_put (g : UInt8) (k : Nat) (hk : k < 32) : (cs (ofL33 g k)).toArray.setIfInBounds (k + 1) (.int .u8 (g.toNat : Int)) = (cs (ofL33 g (k + 1))).toArray := by
  rw [cs_set]
  congr 2
  unfold ofL33
  rw [List.set_cons_succ, List.set_append_right _ _ (by rw [List.length_replicate]; omega), List.length_replicate, Nat.sub_self]
  have e : 32 - k = (32 - (k + 1)) + 1 := by omega
  rw [e, List.replicate_succ, List.set_cons_zero, List.replicate_succ', List.append_assoc]
  rfl
def ofT33 (f g : UInt8) : List UInt8 := f :: List.replicate 32 g
theorem ofL33_end (f g : UInt8) : (cs (ofL33 g 32)).toArray.setIfInBounds 0 (.int .u8 (f.toNat : Int)) = (cs (ofT33 f g)).toArray := by
  rw [cs_set]
  rfl

set_option linter.unusedVariables false in
set_option maxRecDepth 100000 in
set_option maxHeartbeats 2000000 in
theorem of_any33 (f g : UInt8) (w : World) :
    Calls Tryd.prog 36 #[iN .u8 f.toNat, iN .i64 33, iN .u8 g.toNat] w fun e w' => e = .returned (.string ⟨(ofT33 f g).toArray⟩) ∧ Below w.heap.size w w' := by
  have H0 := HA.start w
  go_enter Tryd.func36, Tryd.ntmps36
  refine wp_seq ?_
  -- region 0
  refine wl_region ?_
  refine wl_val (.string { data := #[] }) (by kernel_rfl) (by kernel_rfl) ?_
  refine wl_nil ?_
  refine then_at (F := ⟨(iN .u8 f.toNat :: iN .i64 33 :: iN .u8 g.toNat :: un :: un :: un :: .string { data := #[] } :: List.replicate 18 un).toArray, []⟩) (by kernel_rfl) ?_
  refine wp_seq ?_
  -- region 1
  refine wl_region ?_
  refine wl_val (iN .i64 33) (by kernel_rfl) (by kernel_rfl) ?_
  refine wl_mkslice (n := 33) H0 5 (by kernel_rfl) (run_mk 33 (by decide) (by kernel_rfl) (by kernel_rfl)) ?_
  intro q1 w2 h3
  refine wl_val (.slice (some ⟨q1, 0, none⟩) 33 33) (by kernel_rfl) (by kernel_rfl) ?_
  refine wl_nil ?_
  refine then_at (F := ⟨(iN .u8 f.toNat :: iN .i64 33 :: iN .u8 g.toNat :: un :: un :: un :: .string { data := #[] } :: .slice (some ⟨q1, 0, none⟩) 33 33 :: un :: iN .i64 33 :: .slice (some ⟨q1, 0, none⟩) 33 33 :: List.replicate 14 un).toArray, []⟩) (by kernel_rfl) ?_
  refine wp_seq ?_
  refine wp_seq ?_
  -- region 2
  refine wl_region ?_
  refine wl_val (iN .i64 1) (by kernel_rfl) (by kernel_rfl) ?_
  refine wl_nil ?_
  refine then_at (F := ⟨(iN .u8 f.toNat :: iN .i64 33 :: iN .u8 g.toNat :: un :: un :: un :: .string { data := #[] } :: .slice (some ⟨q1, 0, none⟩) 33 33 :: iN .i64 1 :: iN .i64 33 :: .slice (some ⟨q1, 0, none⟩) 33 33 :: List.replicate 14 un).toArray, []⟩) (by kernel_rfl) ?_
  refine wp_block ?_
  refine wp_count (fun k A w' => ∃ u4 : Nat → Value, A = ⟨(iN .u8 f.toNat :: iN .i64 33 :: iN .u8 g.toNat :: un :: un :: un :: .string { data := #[] } :: .slice (some ⟨q1, 0, none⟩) 33 33 :: iN .i64 (k + 1) :: iN .i64 33 :: .slice (some ⟨q1, 0, none⟩) 33 33 :: u4 11 :: u4 12 :: u4 13 :: u4 14 :: u4 15 :: u4 16 :: u4 17 :: u4 18 :: u4 19 :: List.replicate 5 un).toArray, []⟩ ∧ HA w [(q1, 5, (cs (ofL33 g k)).toArray)] w') 32 ?_ ?_ ?_
  · exact ⟨fun ii => (([(11, undef), (12, undef), (13, undef), (14, undef), (15, undef), (16, undef), (17, undef), (18, undef), (19, undef)] : List (Nat × Value)).find? (·.1 == ii)).elim undef (·.2), by kernel_rfl, (by rw [← (by kernel_rfl : zr 33 = (cs (ofL33 g 0)).toArray)]; exact h3)⟩
  · rintro k hk _ w5 ⟨u4, rfl, h6⟩
    refine wp_seq ?_
    refine wp_seq ?_
    -- region 3
    refine wl_region ?_
    refine wl_val (iN .i64 (k + 1)) (by kernel_rfl) (by kernel_rfl) ?_
    refine wl_val (iN .i64 33) (by kernel_rfl) (by kernel_rfl) ?_
    refine wl_val (.bool true) (by kernel_rfl) (run_lss (k := .i64) (a := k + 1) (b := 33) (by kernel_rfl) (by kernel_rfl) true (decide_eq_true (by omega))) ?_
    refine wl_nil ?_
    refine then_at (F := ⟨(iN .u8 f.toNat :: iN .i64 33 :: iN .u8 g.toNat :: un :: un :: un :: .string { data := #[] } :: .slice (some ⟨q1, 0, none⟩) 33 33 :: iN .i64 (k + 1) :: iN .i64 33 :: .slice (some ⟨q1, 0, none⟩) 33 33 :: iN .i64 (k + 1) :: iN .i64 33 :: .bool true :: u4 14 :: u4 15 :: u4 16 :: u4 17 :: u4 18 :: u4 19 :: List.replicate 5 un).toArray, []⟩) (by kernel_rfl) ?_
    refine wp_cond_true (by kernel_rfl) ?_
    refine wp_skip ?_
    refine then_at (F := ⟨(iN .u8 f.toNat :: iN .i64 33 :: iN .u8 g.toNat :: un :: un :: un :: .string { data := #[] } :: .slice (some ⟨q1, 0, none⟩) 33 33 :: iN .i64 (k + 1) :: iN .i64 33 :: .slice (some ⟨q1, 0, none⟩) 33 33 :: iN .i64 (k + 1) :: iN .i64 33 :: .bool true :: u4 14 :: u4 15 :: u4 16 :: u4 17 :: u4 18 :: u4 19 :: List.replicate 5 un).toArray, []⟩) (by kernel_rfl) ?_
    refine wp_seq ?_
    refine wp_block ?_
    -- region 5
    refine wl_region ?_
    refine wl_val (.slice (some ⟨q1, 0, none⟩) 33 33) (by kernel_rfl) (by kernel_rfl) ?_
    refine wl_val (iN .i64 (k + 1)) (by kernel_rfl) (by kernel_rfl) ?_
    refine wl_val (iN .u8 g.toNat) (by kernel_rfl) (by kernel_rfl) ?_
    refine wl_val (.pointer (some ⟨q1, k + 1, none⟩)) (by kernel_rfl) (run_addr_slice (q := q1) (n := 33) (m := 33) (a := k + 1) Tryd.underlying60 (fun w => Tryd.sizeOf5 w) (by kernel_rfl) (by kernel_rfl) (by omega)) ?_
    refine wl_put (k := .u8) (z := ((g.toNat : Nat) : Int)) h6 0 rfl (k + 1) (by rw [List.size_toArray, cs_length, ofL33_len _ _ (by omega)]; omega) (by kernel_rfl) (fun w => Tryd.sizeOf5 w) (by kernel_rfl) (by kernel_rfl) ?_
    intro w7 h8
    have h9 : HA w [(q1, 5, (cs (ofL33 g (k + 1))).toArray)] w7 := (by rw [← ofL33_put g k hk]; exact h8)
    clear h8
    refine wl_nil ?_
    refine block_normal ?_
    refine then_at (F := ⟨(iN .u8 f.toNat :: iN .i64 33 :: iN .u8 g.toNat :: un :: un :: un :: .string { data := #[] } :: .slice (some ⟨q1, 0, none⟩) 33 33 :: iN .i64 (k + 1) :: iN .i64 33 :: .slice (some ⟨q1, 0, none⟩) 33 33 :: iN .i64 (k + 1) :: iN .i64 33 :: .bool true :: u4 14 :: u4 15 :: .slice (some ⟨q1, 0, none⟩) 33 33 :: iN .i64 (k + 1) :: iN .u8 g.toNat :: .pointer (some ⟨q1, k + 1, none⟩) :: List.replicate 5 un).toArray, []⟩) (by kernel_rfl) ?_
    -- region 4
    refine wl_region ?_
    refine wl_val (iN .i64 (k + 1)) (by kernel_rfl) (by kernel_rfl) ?_
    refine wl_val (iN .i64 ((k + 1) + 1)) (by kernel_rfl) (run_add (k := .i64) (a := k + 1) (b := 1) (by kernel_rfl) (by kernel_rfl) (by simp only [top]; omega)) ?_
    refine wl_val (iN .i64 ((k + 1) + 1)) (by kernel_rfl) (by kernel_rfl) ?_
    refine wl_nil ?_
    exact then_I ⟨fun ii => (([(11, iN .i64 (k + 1)), (12, iN .i64 33), (13, .bool true), (14, iN .i64 (k + 1)), (15, iN .i64 ((k + 1) + 1)), (16, .slice (some ⟨q1, 0, none⟩) 33 33), (17, iN .i64 (k + 1)), (18, iN .u8 g.toNat), (19, .pointer (some ⟨q1, k + 1, none⟩))] : List (Nat × Value)).find? (·.1 == ii)).elim undef (·.2), by kernel_rfl, h9⟩
  · rintro _ w10 ⟨u4, rfl, h11⟩
    refine wp_seq ?_
    refine wp_seq ?_
    -- region 3
    refine wl_region ?_
    refine wl_val (iN .i64 (32 + 1)) (by kernel_rfl) (by kernel_rfl) ?_
    refine wl_val (iN .i64 33) (by kernel_rfl) (by kernel_rfl) ?_
    refine wl_val (.bool false) (by kernel_rfl) (run_lss (k := .i64) (a := 32 + 1) (b := 33) (by kernel_rfl) (by kernel_rfl) false (by decide)) ?_
    refine wl_nil ?_
    refine then_at (F := ⟨(iN .u8 f.toNat :: iN .i64 33 :: iN .u8 g.toNat :: un :: un :: un :: .string { data := #[] } :: .slice (some ⟨q1, 0, none⟩) 33 33 :: iN .i64 (32 + 1) :: iN .i64 33 :: .slice (some ⟨q1, 0, none⟩) 33 33 :: iN .i64 (32 + 1) :: iN .i64 33 :: .bool false :: u4 14 :: u4 15 :: u4 16 :: u4 17 :: u4 18 :: u4 19 :: List.replicate 5 un).toArray, []⟩) (by kernel_rfl) ?_
    refine wp_cond_false (by kernel_rfl) ?_
    refine wp_exit ?_
    repeat first | refine then_exit ?_ | refine block_exit ?_ | refine block_exit_ne (by decide) ?_
    refine then_at (F := ⟨(iN .u8 f.toNat :: iN .i64 33 :: iN .u8 g.toNat :: un :: un :: un :: .string { data := #[] } :: .slice (some ⟨q1, 0, none⟩) 33 33 :: iN .i64 (32 + 1) :: iN .i64 33 :: .slice (some ⟨q1, 0, none⟩) 33 33 :: iN .i64 (32 + 1) :: iN .i64 33 :: .bool false :: u4 14 :: u4 15 :: u4 16 :: u4 17 :: u4 18 :: u4 19 :: List.replicate 5 un).toArray, []⟩) (by kernel_rfl) ?_
    refine wp_seq ?_
    -- region 6
    refine wl_region ?_
    refine wl_val (.slice (some ⟨q1, 0, none⟩) 33 33) (by kernel_rfl) (by kernel_rfl) ?_
    refine wl_val (iN .u8 f.toNat) (by kernel_rfl) (by kernel_rfl) ?_
    refine wl_val (.pointer (some ⟨q1, 0, none⟩)) (by kernel_rfl) (run_addr_slice (q := q1) (n := 33) (m := 33) (a := 0) Tryd.underlying60 (fun w => Tryd.sizeOf5 w) (by kernel_rfl) (by kernel_rfl) (by decide)) ?_
    refine wl_put (k := .u8) (z := ((f.toNat : Nat) : Int)) h11 0 rfl 0 (by rw [List.size_toArray, cs_length, ofL33_len _ _ (by omega)]; omega) (by kernel_rfl) (fun w => Tryd.sizeOf5 w) (by kernel_rfl) (by kernel_rfl) ?_
    intro w12 h13
    have h14 : HA w [(q1, 5, (cs (ofT33 f g)).toArray)] w12 := (by rw [← ofL33_end f g]; exact h13)
    clear h13
    refine wl_nil ?_
    refine then_at (F := ⟨(iN .u8 f.toNat :: iN .i64 33 :: iN .u8 g.toNat :: un :: un :: un :: .string { data := #[] } :: .slice (some ⟨q1, 0, none⟩) 33 33 :: iN .i64 (32 + 1) :: iN .i64 33 :: .slice (some ⟨q1, 0, none⟩) 33 33 :: iN .i64 (32 + 1) :: iN .i64 33 :: .bool false :: u4 14 :: u4 15 :: u4 16 :: u4 17 :: u4 18 :: u4 19 :: .slice (some ⟨q1, 0, none⟩) 33 33 :: iN .u8 f.toNat :: pt q1 :: List.replicate 2 un).toArray, []⟩) (by kernel_rfl) ?_
    refine wp_seq ?_
    -- region 7
    refine wl_region ?_
    refine wl_val (.slice (some ⟨q1, 0, none⟩) 33 33) (by kernel_rfl) (by kernel_rfl) ?_
    refine wl_val (.string ⟨(ofT33 f g).toArray⟩) (by kernel_rfl) (run_text (ofT33 f g) (by kernel_rfl) (h14.get 0 rfl) rfl rfl) ?_
    refine wl_val (.string ⟨(ofT33 f g).toArray⟩) (by kernel_rfl) (by kernel_rfl) ?_
    refine wl_nil ?_
    refine then_at (F := ⟨(iN .u8 f.toNat :: iN .i64 33 :: iN .u8 g.toNat :: un :: un :: un :: .string ⟨(ofT33 f g).toArray⟩ :: .slice (some ⟨q1, 0, none⟩) 33 33 :: iN .i64 (32 + 1) :: iN .i64 33 :: .slice (some ⟨q1, 0, none⟩) 33 33 :: iN .i64 (32 + 1) :: iN .i64 33 :: .bool false :: u4 14 :: u4 15 :: u4 16 :: u4 17 :: u4 18 :: u4 19 :: .slice (some ⟨q1, 0, none⟩) 33 33 :: iN .u8 f.toNat :: pt q1 :: .slice (some ⟨q1, 0, none⟩) 33 33 :: .string ⟨(ofT33 f g).toArray⟩ :: List.replicate 0 un).toArray, []⟩) (by kernel_rfl) ?_
    refine wp_ret ?_
    repeat first | refine then_ret ?_ | refine block_ret ?_
    exact bodyPost_ret (v := .string ⟨(ofT33 f g).toArray⟩) (by kernel_rfl) rfl ⟨rfl, h14.old⟩

def o32 (f g : UInt8) : ByteArray := ⟨(ofT f g).toArray⟩
def o31 (f g : UInt8) : ByteArray := ⟨(ofT31 f g).toArray⟩
def o33 (f g : UInt8) : ByteArray := ⟨(ofT33 f g).toArray⟩
def kOne : ByteArray := { data := #[1, 0, 0, 0, 0, 0, 0, 0, 0, 0, 0, 0, 0, 0, 0, 0, 0, 0, 0, 0, 0, 0, 0, 0, 0, 0, 0, 0, 0, 0, 0, 128] }
def kP : ByteArray := { data := #[237, 255, 255, 255, 255, 255, 255, 255, 255, 255, 255, 255, 255, 255, 255, 255, 255, 255, 255, 255, 255, 255, 255, 255, 255, 255, 255, 255, 255, 255, 255, 127] }
def kHi : ByteArray := { data := #[246, 255, 255, 255, 255, 255, 255, 255, 255, 255, 255, 255, 255, 255, 255, 255, 255, 255, 255, 255, 255, 255, 255, 255, 255, 255, 255, 255, 255, 255, 255, 127] }
theorem kOne_is : (⟨((bl (o32 1 0)).set 31 (UInt8.ofNat 128)).toArray⟩ : ByteArray) = kOne := by decide +kernel
theorem kP_is : (⟨((bl (o32 237 255)).set 31 (UInt8.ofNat 127)).toArray⟩ : ByteArray) = kP := by decide +kernel
theorem kHi_is : (⟨((bl (o32 246 255)).set 31 (UInt8.ofNat 127)).toArray⟩ : ByteArray) = kHi := by decide +kernel
theorem kOne_of : ofP (topS kOne) = some 1 := by decide +kernel
theorem kOne_bit : numS kOne / 2 ^ 255 % 2 = 1 := by decide +kernel
theorem kOne_rt : rootP (bsq 1) = some 0 := by
  have e : bsq 1 = 0 := by unfold bsq; rw [invE_pm]; decide +kernel
  rw [e]; exact root_zero
theorem kP_of : ofP (topS kP) = none := by decide +kernel
theorem kP_bit : ¬ numS kP / 2 ^ 255 % 2 = 1 := by decide +kernel
theorem num2o : numS (o32 2 0) = 2 := by decide +kernel
theorem hi_u : numS (topS kHi) % P = 9 := by decide +kernel
theorem x_hi : xP nine kHi = 54815864700279561125610391355931320566748822376190344121911385527384361806914 := by
  unfold xP
  rw [hi_u, go4_lad0, nine_num, invE_pm]
  exact go_nine
theorem nine_o : o32 9 0 = nine := rfl
def h2x : ByteArray := { data := #[99, 57, 97, 51, 102, 56, 54, 97, 97, 101, 52, 54, 53, 102, 48, 101, 53, 54, 53, 49, 51, 56, 54, 52, 53, 49, 48, 102, 51, 57, 57, 55, 53, 54, 49, 102, 97, 50, 99, 57, 101, 56, 53, 101, 97, 50, 49, 100, 99, 50, 50, 57, 50, 51, 48, 57, 102, 51, 99, 100, 54, 48, 50, 50] }
def h2s : ByteArray := { data := #[201, 163, 248, 106, 174, 70, 95, 14, 86, 81, 56, 100, 81, 15, 57, 151, 86, 31, 162, 201, 232, 94, 162, 29, 194, 41, 35, 9, 243, 205, 96, 34] }
theorem h2_ok : Hexd h2x := fun i hi => by
  have h : ∀ i : Fin 64, 48 ≤ sb h2x i.1 ∧ sb h2x i.1 < 128 ∧ halfN (sb h2x i.1) < 16 := by decide +kernel
  exact h ⟨i, hi⟩
theorem h2_is : (⟨(hexL h2x 32).toArray⟩ : ByteArray) = h2s := by decide +kernel
theorem h2_hex (w : World) : Calls Tryd.prog 31 #[.string h2x] w fun e w' => e = .returned (.string h2s) ∧ Below w.heap.size w w' := by
  have hz := hex_any h2x rfl h2_ok w
  rw [h2_is] at hz
  exact hz
def hAx : ByteArray := { data := #[97, 53, 52, 54, 101, 51, 54, 98, 102, 48, 53, 50, 55, 99, 57, 100, 51, 98, 49, 54, 49, 53, 52, 98, 56, 50, 52, 54, 53, 101, 100, 100, 54, 50, 49, 52, 52, 99, 48, 97, 99, 49, 102, 99, 53, 97, 49, 56, 53, 48, 54, 97, 50, 50, 52, 52, 98, 97, 52, 52, 57, 97, 99, 52] }
def hAs : ByteArray := { data := #[165, 70, 227, 107, 240, 82, 124, 157, 59, 22, 21, 75, 130, 70, 94, 221, 98, 20, 76, 10, 193, 252, 90, 24, 80, 106, 34, 68, 186, 68, 154, 196] }
theorem hA_ok : Hexd hAx := fun i hi => by
  have h : ∀ i : Fin 64, 48 ≤ sb hAx i.1 ∧ sb hAx i.1 < 128 ∧ halfN (sb hAx i.1) < 16 := by decide +kernel
  exact h ⟨i, hi⟩
theorem hA_is : (⟨(hexL hAx 32).toArray⟩ : ByteArray) = hAs := by decide +kernel
theorem hA_hex (w : World) : Calls Tryd.prog 31 #[.string hAx] w fun e w' => e = .returned (.string hAs) ∧ Below w.heap.size w w' := by
  have hz := hex_any hAx rfl hA_ok w
  rw [hA_is] at hz
  exact hz
def hBx : ByteArray := { data := #[101, 54, 100, 98, 54, 56, 54, 55, 53, 56, 51, 48, 51, 48, 100, 98, 51, 53, 57, 52, 99, 49, 97, 52, 50, 52, 98, 49, 53, 102, 55, 99, 55, 50, 54, 54, 50, 52, 101, 99, 50, 54, 98, 51, 51, 53, 51, 98, 49, 48, 97, 57, 48, 51, 97, 54, 100, 48, 97, 98, 49, 99, 52, 99] }
def hBs : ByteArray := { data := #[230, 219, 104, 103, 88, 48, 48, 219, 53, 148, 193, 164, 36, 177, 95, 124, 114, 102, 36, 236, 38, 179, 53, 59, 16, 169, 3, 166, 208, 171, 28, 76] }
theorem hB_ok : Hexd hBx := fun i hi => by
  have h : ∀ i : Fin 64, 48 ≤ sb hBx i.1 ∧ sb hBx i.1 < 128 ∧ halfN (sb hBx i.1) < 16 := by decide +kernel
  exact h ⟨i, hi⟩
theorem hB_is : (⟨(hexL hBx 32).toArray⟩ : ByteArray) = hBs := by decide +kernel
theorem hB_hex (w : World) : Calls Tryd.prog 31 #[.string hBx] w fun e w' => e = .returned (.string hBs) ∧ Below w.heap.size w w' := by
  have hz := hex_any hBx rfl hB_ok w
  rw [hB_is] at hz
  exact hz
def hCx : ByteArray := { data := #[99, 51, 100, 97, 53, 53, 51, 55, 57, 100, 101, 57, 99, 54, 57, 48, 56, 101, 57, 52, 101, 97, 52, 100, 102, 50, 56, 100, 48, 56, 52, 102, 51, 50, 101, 99, 99, 102, 48, 51, 52, 57, 49, 99, 55, 49, 102, 55, 53, 52, 98, 52, 48, 55, 53, 53, 55, 55, 97, 50, 56, 53, 53, 50] }
def hCs : ByteArray := { data := #[195, 218, 85, 55, 157, 233, 198, 144, 142, 148, 234, 77, 242, 141, 8, 79, 50, 236, 207, 3, 73, 28, 113, 247, 84, 180, 7, 85, 119, 162, 133, 82] }
theorem hC_ok : Hexd hCx := fun i hi => by
  have h : ∀ i : Fin 64, 48 ≤ sb hCx i.1 ∧ sb hCx i.1 < 128 ∧ halfN (sb hCx i.1) < 16 := by decide +kernel
  exact h ⟨i, hi⟩
theorem hC_is : (⟨(hexL hCx 32).toArray⟩ : ByteArray) = hCs := by decide +kernel
theorem hC_hex (w : World) : Calls Tryd.prog 31 #[.string hCx] w fun e w' => e = .returned (.string hCs) ∧ Below w.heap.size w w' := by
  have hz := hex_any hCx rfl hC_ok w
  rw [hC_is] at hz
  exact hz
theorem hl_hex (w : World) : Calls Tryd.prog 31 #[.string hexl] w fun e w' => e = .returned (.string sL) ∧ Below w.heap.size w w' := by
  have hz := hex_any hexl rfl hexl_ok w
  rw [hexl_is] at hz
  exact hz
theorem ab_num : numS (clampS hAs) = 31029842492115040904895560451863089656472772604678260265531221036453811406496 := by decide +kernel
theorem ab_u : numS (topS hBs) % P = 34426434033919594451155107781188821651316167215306631574996226621102155684838 := by decide +kernel
theorem go_ab : mulP (go4 31029842492115040904895560451863089656472772604678260265531221036453811406496 34426434033919594451155107781188821651316167215306631574996226621102155684838 256 1 0 34426434033919594451155107781188821651316167215306631574996226621102155684838 1).1.1 (pm P 256 (go4 31029842492115040904895560451863089656472772604678260265531221036453811406496 34426434033919594451155107781188821651316167215306631574996226621102155684838 256 1 0 34426434033919594451155107781188821651316167215306631574996226621102155684838 1).1.2 (P - 2)) = 37325765543539916631701301279660700968428932651319597985674090122993663859395 := by decide +kernel
theorem x_ab : xP hAs hBs = 37325765543539916631701301279660700968428932651319597985674090122993663859395 := by
  unfold xP
  rw [ab_u, go4_lad0, ab_num, invE_pm]
  exact go_ab
theorem ab_text : bytesOf 37325765543539916631701301279660700968428932651319597985674090122993663859395 = hCs := by decide +kernel
theorem nine_hi : bytesOf (xP nine kHi) = bytesOf (xP nine nine) := by rw [x_hi, x_nine]
/-- twice the base -/
theorem two_go : pX (goQ 2 bX bR 256 0 1 1 0) = mulP (goQ 2 bX bR 256 0 1 1 0).X (pm P 256 (goQ 2 bX bR 256 0 1 1 0).Z (P - 2)) := by unfold pX; rw [invE_pm]
theorem two_go2 : pR (goQ 2 bX bR 256 0 1 1 0) = subP (mulP (goQ 2 bX bR 256 0 1 1 0).Y (pm P 256 (goQ 2 bX bR 256 0 1 1 0).Z (P - 2))) 1 := by unfold pR; rw [invE_pm]
theorem two_pn : Pn (pX (goQ 2 bX bR 256 0 1 1 0)) (pR (goQ 2 bX bR 256 0 1 1 0)) (mP bP 2) := by
  have h := (mu_rep (o32 2 0) rfl Pn.base 256 (Nat.le_refl _)).point
  rw [Nat.sub_self, Nat.pow_zero, Nat.div_one, goQ_mu0, num2o, bR_eq] at h
  exact h
theorem two_enc : encP (mP bP 2) = h2s := by
  unfold encP
  rw [← two_pn.xv, ← two_pn.yv, two_go, two_go2]
  decide +kernel
theorem none_enc : encP nP = o32 1 0 := by
  unfold encP
  decide +kernel
theorem two_sum : mP bP 2 = aP bP bP := by rw [show 2 = 2 * 1 from rfl, mP_two, mP_one]
theorem base_neg : bP ≠ gP bP := fun e => by
  have h : toF bX = 0 - toF bX := congrArg Pt.x e
  exact absurd h (by decide +kernel)
end Go.Proofs.YtpaendmdcdeemaaDoor
