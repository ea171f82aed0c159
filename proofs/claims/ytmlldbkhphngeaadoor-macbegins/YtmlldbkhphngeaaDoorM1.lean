/-
  mac's own functions: a key's block, turned; rows of texts; Hmac.
-/
import Derived.Test.YtmlldbkhphngeaaDoorMA
namespace Go.Proofs.YtmlldbkhphngeaaDoor
open Go.RowKit


def kyP (k : ByteArray) : List UInt8 := if 64 < k.size then digP KS (bl k) else bl k
theorem kyP_le (k : ByteArray) : (kyP k).length ≤ 64 := by
  unfold kyP
  split
  · rw [digP_len]; decide
  · rw [bl_len]; omega
def kbP (k : ByteArray) : List UInt8 := kyP k ++ List.replicate (64 - (kyP k).length) 0
theorem kbP_len (k : ByteArray) : (kbP k).length = 64 := by
  have := kyP_le k
  unfold kbP
  rw [List.length_append, List.length_replicate]
  omega
def xbP (l : List UInt8) (b : UInt8) : List UInt8 := l.map (· ^^^ b)
theorem xbP_len (l : List UInt8) (b : UInt8) : (xbP l b).length = l.length := List.length_map _
/-- the digest that a key tells -/
def hmP (k : ByteArray) (l : List UInt8) : List UInt8 := digP KS (xbP (kbP k) 92 ++ digP KS (xbP (kbP k) 54 ++ l))
theorem hmP_len (k : ByteArray) (l : List UInt8) : (hmP k l).length = 32 := by unfold hmP; rw [digP_len]; rfl
/-- the first j are turned -/
def xoP (l : List UInt8) (b : UInt8) (j : Nat) : List UInt8 := (l.take j).map (· ^^^ b) ++ l.drop j
theorem xoP_len (l : List UInt8) (b : UInt8) (j : Nat) (n : Nat) (h : l.length = n) : (xoP l b j).length = n := by
  unfold xoP
  rw [List.length_append, List.length_map, List.length_take, List.length_drop]
  omega
theorem xoP_zero (l : List UInt8) (b : UInt8) : xoP l b 0 = l := by unfold xoP; rw [List.take_zero]; rfl
theorem xoP_end (l : List UInt8) (b : UInt8) (n : Nat) (h : l.length = n) : xoP l b n = xbP l b := by
  unfold xoP xbP
  rw [List.take_of_length_le (by omega), List.drop_of_length_le (by omega), List.append_nil]
theorem xoP_get (l : List UInt8) (b : UInt8) (j : Nat) (h : j < l.length) : (bc (xoP l b j))[j]? = some (by8 (l.getD j 0)) := by
  rw [bc_get _ j (by rw [xoP_len l b j _ rfl]; exact h)]
  unfold xoP
  rw [List.getD_eq_getElem?_getD, List.getElem?_append_right (by rw [List.length_map, List.length_take]; omega), List.length_map, List.length_take, List.getElem?_drop, List.getD_eq_getElem?_getD]
  congr 4
  omega
theorem bc_put (l : List UInt8) (i : Nat) (u : UInt8) : (bc l).setIfInBounds i (.int .u8 ((u.toNat : Nat) : Int)) = bc (l.set i u) := by
  unfold bc
  rw [List.setIfInBounds_toArray, List.map_set]
  rfl
theorem xoP_put (l : List UInt8) (b : UInt8) (j : Nat) (h : j < l.length) : (bc (xoP l b j)).setIfInBounds j (.int .u8 (((l.getD j 0 ^^^ b).toNat : Nat) : Int)) = bc (xoP l b (j + 1)) := by
  rw [bc_put]
  congr 1
  unfold xoP
  have e : ((l.take j).map (· ^^^ b)).length = j := by rw [List.length_map, List.length_take]; omega
  rw [List.set_append_right _ _ (by omega), e, Nat.sub_self, List.drop_eq_getElem_cons h, List.set_cons_zero, List.take_succ_eq_append_getElem h, List.map_append, List.append_assoc, List.getD_eq_getElem?_getD, List.getElem?_eq_getElem h]
  rfl
theorem laid0 (r : List UInt8) (_h : r.length ≤ 64) : laidOn (List.replicate 64 0) 0 r = r ++ List.replicate (64 - r.length) 0 := by
  unfold laidOn
  rw [List.take_zero, List.nil_append, List.drop_replicate, Nat.zero_add]
theorem catP_cons (s : ByteArray) (ps : List ByteArray) : ∀ n, catP (s :: ps) (n + 1) = bl s ++ catP ps n
  | 0 => (List.append_nil _).symm
  | n + 1 => by rw [catP, catP_cons s ps n, catP, List.append_assoc]; rfl
theorem szP_cons (s : ByteArray) (ps : List ByteArray) : ∀ n, szP (s :: ps) (n + 1) = s.size + szP ps n
  | 0 => Nat.add_comm _ _
  | n + 1 => by rw [szP, szP_cons s ps n, szP, Nat.add_assoc]; rfl
theorem sz_mk (l : List UInt8) : (ByteArray.mk l.toArray).size = l.length := rfl
theorem bl_mk (l : List UInt8) : bl (ByteArray.mk l.toArray) = l := rfl
theorem szP_mono (ps : List ByteArray) : ∀ i n, i ≤ n → szP ps i ≤ szP ps n
  | i, 0, h => by rw [Nat.le_zero.1 h]; exact Nat.le_refl _
  | i, n + 1, h => by
    rcases Nat.lt_or_ge i (n + 1) with h1 | h1
    · exact Nat.le_trans (szP_mono ps i n (by omega)) (Nat.le_add_right _ _)
    · rw [Nat.le_antisymm h h1]; exact Nat.le_refl _
theorem ky_yes (k : ByteArray) (h : 64 < k.size) : kyP k = bl ⟨(digP KS (catP [k] 1)).toArray⟩ := by
  unfold kyP
  rw [if_pos h]
  rfl
theorem ky_no (k : ByteArray) (h : ¬ 64 < k.size) : kyP k = bl k := by
  unfold kyP
  rw [if_neg h]

set_option linter.unusedVariables false in
set_option maxRecDepth 100000 in
set_option maxHeartbeats 2000000 in
theorem blockc (k : ByteArray) (hk : k.size ≤ 2251799813685248) (w : World) (VV : Vars w) :
    Calls Tryd.prog 20 #[.string k] w fun e w' => e = .returned (.agg (bc (kbP k))) ∧ Below w.heap.size w w' := by
  have H0 := HA.start w
  go_enter Tryd.func20, Tryd.ntmps20
  refine wp_seq ?_
  -- region 0
  refine wl_region ?_
  refine wl_make H0 39 (by kernel_rfl) run_allocK ?_
  intro q1 w2 h3
  refine wl_nil ?_
  refine then_at (F := ⟨(.string k :: un :: pt q1 :: List.replicate 11 un).toArray, []⟩) (by kernel_rfl) ?_
  refine wp_seq ?_
  refine wp_seq ?_
  by_cases hc : 64 < k.size
  · -- region 1
    refine wl_region ?_
    refine wl_val (.string k) (by kernel_rfl) (by kernel_rfl) ?_
    refine wl_val (iN .i64 k.size) (by kernel_rfl) (run_len (s := k) (by kernel_rfl)) ?_
    refine wl_val (.bool true) (by kernel_rfl) (run_gtr (k := .i64) (a := k.size) (b := 64) (by kernel_rfl) (by kernel_rfl) true (decide_eq_true hc)) ?_
    refine wl_nil ?_
    refine then_at (F := ⟨(.string k :: un :: pt q1 :: un :: .string k :: iN .i64 k.size :: .bool true :: List.replicate 7 un).toArray, []⟩) (by kernel_rfl) ?_
    refine wp_cond_true (by kernel_rfl) ?_
    -- region 2
    refine wl_region ?_
    refine wl_val (.string k) (by kernel_rfl) (by kernel_rfl) ?_
    refine wl_mks (n := 1) (m := 1) (c := psc [k]) h3 9 (by kernel_rfl) (run_bs1 (u := k) (by kernel_rfl)) ?_
    intro q4 w5 h6
    refine wl_call (v := .string (ByteArray.mk (digP KS (catP [k] 1)).toArray)) h6 (by kernel_rfl) enter22 #[.slice (some ⟨q4, 0, none⟩) 1 1] (by kernel_rfl) (shaS' ([k]) 1 rfl (some ⟨q4, 0, none⟩) 1 w5 (VV.below h6.old VV.big) (parts_ofc (h6.get 0 rfl)) (sz_one _ hk) (by decide)) ?_
    intro w7 h8
    refine wl_val (.string (ByteArray.mk (digP KS (catP [k] 1)).toArray)) (by kernel_rfl) (by kernel_rfl) ?_
    refine wl_nil ?_
    refine then_at (F := ⟨(.string (ByteArray.mk (digP KS (catP [k] 1)).toArray) :: un :: pt q1 :: un :: .string k :: iN .i64 k.size :: .bool true :: .string k :: .slice (some ⟨q4, 0, none⟩) 1 1 :: .string (ByteArray.mk (digP KS (catP [k] 1)).toArray) :: List.replicate 4 un).toArray, []⟩) (by kernel_rfl) ?_
    refine wp_seq ?_
    -- region 3
    refine wl_region ?_
    refine wl_make h8 39 (by kernel_rfl) run_allocK ?_
    intro q9 w10 h11
    refine wl_nil ?_
    refine then_at (F := ⟨(.string (ByteArray.mk (digP KS (catP [k] 1)).toArray) :: un :: pt q1 :: pt q9 :: .string k :: iN .i64 k.size :: .bool true :: .string k :: .slice (some ⟨q4, 0, none⟩) 1 1 :: .string (ByteArray.mk (digP KS (catP [k] 1)).toArray) :: List.replicate 4 un).toArray, []⟩) (by kernel_rfl) ?_
    refine wp_seq ?_
    -- region 4
    refine wl_region ?_
    refine wl_val (.slice (some ⟨q9, 0, none⟩) 64 64) (by kernel_rfl) (run_cut39 (q := q9) (by kernel_rfl)) ?_
    refine wl_val (.string (ByteArray.mk (digP KS (catP [k] 1)).toArray)) (by kernel_rfl) (by kernel_rfl) ?_
    refine wl_copys (q := q9) (l := List.replicate 64 0) (l' := kbP k) (s := ByteArray.mk (digP KS (catP [k] 1)).toArray) h11 0 rfl (by kernel_rfl) (by kernel_rfl) (by kernel_rfl) (List.length_replicate) (by rw [← bl_len, ← ky_yes k hc]; exact kyP_le k) (by rw [laid0 _ (by rw [← ky_yes k hc]; exact kyP_le k), ← ky_yes k hc]; rfl) ?_
    intro w12 (h13 : HA w [(q9, 39, bc (kbP k)), (q4, 9, psc [k]), (q1, 39, bc (List.replicate 64 0))] w12)
    refine wl_nil ?_
    refine then_at (F := ⟨(.string (ByteArray.mk (digP KS (catP [k] 1)).toArray) :: un :: pt q1 :: pt q9 :: .string k :: iN .i64 k.size :: .bool true :: .string k :: .slice (some ⟨q4, 0, none⟩) 1 1 :: .string (ByteArray.mk (digP KS (catP [k] 1)).toArray) :: .slice (some ⟨q9, 0, none⟩) 64 64 :: .string (ByteArray.mk (digP KS (catP [k] 1)).toArray) :: iN .i64 ((ByteArray.mk (digP KS (catP [k] 1)).toArray).size) :: List.replicate 1 un).toArray, []⟩) (by kernel_rfl) ?_
    refine wp_seq ?_
    -- region 5
    refine wl_region ?_
    refine wl_load h13 0 rfl (by kernel_rfl) (by kernel_rfl) Tryd.underlying39 rfl (infoK (kbP k) (kbP_len k)) ?_
    refine wl_fill (c' := bc (kbP k)) h13 2 rfl (by kernel_rfl) (by kernel_rfl) (by kernel_rfl) (by rw [bc_size, bc_size, (kbP_len k), (List.length_replicate)]) (infoK (kbP k) (kbP_len k)) (one_bc (kbP k)) ?_
    intro w14 (h15 : HA w [(q9, 39, bc (kbP k)), (q4, 9, psc [k]), (q1, 39, bc (kbP k))] w14)
    refine wl_nil ?_
    refine then_at (F := ⟨(.string (ByteArray.mk (digP KS (catP [k] 1)).toArray) :: un :: pt q1 :: pt q9 :: .string k :: iN .i64 k.size :: .bool true :: .string k :: .slice (some ⟨q4, 0, none⟩) 1 1 :: .string (ByteArray.mk (digP KS (catP [k] 1)).toArray) :: .slice (some ⟨q9, 0, none⟩) 64 64 :: .string (ByteArray.mk (digP KS (catP [k] 1)).toArray) :: iN .i64 ((ByteArray.mk (digP KS (catP [k] 1)).toArray).size) :: .agg (bc (kbP k)) :: List.replicate 0 un).toArray, []⟩) (by kernel_rfl) ?_
    refine wp_ret ?_
    repeat first | refine then_ret ?_ | refine block_ret ?_
    exact bodyPost_ret (v := .agg (bc (kbP k))) (res_cell (p := 2) (by kernel_rfl) (by kernel_rfl) (h15.get 2 rfl) Tryd.underlying39 rfl (infoK _ (kbP_len k))) rfl ⟨rfl, h15.old⟩
  · -- region 1
    refine wl_region ?_
    refine wl_val (.string k) (by kernel_rfl) (by kernel_rfl) ?_
    refine wl_val (iN .i64 k.size) (by kernel_rfl) (run_len (s := k) (by kernel_rfl)) ?_
    refine wl_val (.bool false) (by kernel_rfl) (run_gtr (k := .i64) (a := k.size) (b := 64) (by kernel_rfl) (by kernel_rfl) false (decide_eq_false hc)) ?_
    refine wl_nil ?_
    refine then_at (F := ⟨(.string k :: un :: pt q1 :: un :: .string k :: iN .i64 k.size :: .bool false :: List.replicate 7 un).toArray, []⟩) (by kernel_rfl) ?_
    refine wp_cond_false (by kernel_rfl) ?_
    refine wp_skip ?_
    refine then_at (F := ⟨(.string k :: un :: pt q1 :: un :: .string k :: iN .i64 k.size :: .bool false :: List.replicate 7 un).toArray, []⟩) (by kernel_rfl) ?_
    refine wp_seq ?_
    -- region 3
    refine wl_region ?_
    refine wl_make h3 39 (by kernel_rfl) run_allocK ?_
    intro q16 w17 h18
    refine wl_nil ?_
    refine then_at (F := ⟨(.string k :: un :: pt q1 :: pt q16 :: .string k :: iN .i64 k.size :: .bool false :: List.replicate 7 un).toArray, []⟩) (by kernel_rfl) ?_
    refine wp_seq ?_
    -- region 4
    refine wl_region ?_
    refine wl_val (.slice (some ⟨q16, 0, none⟩) 64 64) (by kernel_rfl) (run_cut39 (q := q16) (by kernel_rfl)) ?_
    refine wl_val (.string k) (by kernel_rfl) (by kernel_rfl) ?_
    refine wl_copys (q := q16) (l := List.replicate 64 0) (l' := kbP k) (s := k) h18 0 rfl (by kernel_rfl) (by kernel_rfl) (by kernel_rfl) (List.length_replicate) (by rw [← bl_len, ← ky_no k hc]; exact kyP_le k) (by rw [laid0 _ (by rw [← ky_no k hc]; exact kyP_le k), ← ky_no k hc]; rfl) ?_
    intro w19 (h20 : HA w [(q16, 39, bc (kbP k)), (q1, 39, bc (List.replicate 64 0))] w19)
    refine wl_nil ?_
    refine then_at (F := ⟨(.string k :: un :: pt q1 :: pt q16 :: .string k :: iN .i64 k.size :: .bool false :: un :: un :: un :: .slice (some ⟨q16, 0, none⟩) 64 64 :: .string k :: iN .i64 k.size :: List.replicate 1 un).toArray, []⟩) (by kernel_rfl) ?_
    refine wp_seq ?_
    -- region 5
    refine wl_region ?_
    refine wl_load h20 0 rfl (by kernel_rfl) (by kernel_rfl) Tryd.underlying39 rfl (infoK (kbP k) (kbP_len k)) ?_
    refine wl_fill (c' := bc (kbP k)) h20 1 rfl (by kernel_rfl) (by kernel_rfl) (by kernel_rfl) (by rw [bc_size, bc_size, (kbP_len k), (List.length_replicate)]) (infoK (kbP k) (kbP_len k)) (one_bc (kbP k)) ?_
    intro w21 (h22 : HA w [(q16, 39, bc (kbP k)), (q1, 39, bc (kbP k))] w21)
    refine wl_nil ?_
    refine then_at (F := ⟨(.string k :: un :: pt q1 :: pt q16 :: .string k :: iN .i64 k.size :: .bool false :: un :: un :: un :: .slice (some ⟨q16, 0, none⟩) 64 64 :: .string k :: iN .i64 k.size :: .agg (bc (kbP k)) :: List.replicate 0 un).toArray, []⟩) (by kernel_rfl) ?_
    refine wp_ret ?_
    repeat first | refine then_ret ?_ | refine block_ret ?_
    exact bodyPost_ret (v := .agg (bc (kbP k))) (res_cell (p := 2) (by kernel_rfl) (by kernel_rfl) (h22.get 1 rfl) Tryd.underlying39 rfl (infoK _ (kbP_len k))) rfl ⟨rfl, h22.old⟩

set_option linter.unusedVariables false in
set_option maxRecDepth 100000 in
set_option maxHeartbeats 2000000 in
theorem turnedc (b : UInt8) (q : Nat) (l : List UInt8) (hl : l.length = 64) (w : World) (hq : Blk w q 39 (bc l)) :
    Calls Tryd.prog 21 #[by8 b, .pointer (some ⟨q, 0, none⟩)] w fun e w' => e = .returned (.string ⟨(xbP l b).toArray⟩) ∧ Below w.heap.size w w' := by
  have H0 := HA.start w
  go_enter Tryd.func21, Tryd.ntmps21
  refine wp_seq ?_
  -- region 0
  refine wl_region ?_
  refine wl_val (.string { data := #[] }) (by kernel_rfl) (by kernel_rfl) ?_
  refine wl_nil ?_
  refine then_at (F := ⟨(by8 b :: pt q :: un :: .string { data := #[] } :: List.replicate 15 un).toArray, []⟩) (by kernel_rfl) ?_
  refine wp_seq ?_
  -- region 1
  refine wl_region ?_
  refine wl_val (.agg (bc l)) (by kernel_rfl) (run_load_blk (by kernel_rfl) (hq.at' (H0.old.block q hq.lt)) Tryd.underlying39 rfl (infoK l hl)) ?_
  refine wl_make H0 39 (by kernel_rfl) run_allocK ?_
  intro q1 w2 h3
  refine wl_fill (c' := bc l) h3 0 rfl (by kernel_rfl) (by kernel_rfl) (by kernel_rfl) (by rw [bc_size, bc_size, hl, (List.length_replicate)]) (infoK l hl) (one_bc l) ?_
  intro w4 (h5 : HA w [(q1, 39, bc l)] w4)
  refine wl_nil ?_
  refine then_at (F := ⟨(by8 b :: pt q :: un :: .string { data := #[] } :: pt q1 :: un :: .agg (bc l) :: List.replicate 12 un).toArray, []⟩) (by kernel_rfl) ?_
  refine wp_seq ?_
  refine wp_seq ?_
  -- region 2
  refine wl_region ?_
  refine wl_val (iN .i64 0) (by kernel_rfl) (by kernel_rfl) ?_
  refine wl_nil ?_
  refine then_at (F := ⟨(by8 b :: pt q :: un :: .string { data := #[] } :: pt q1 :: un :: .agg (bc l) :: iN .i64 0 :: List.replicate 11 un).toArray, []⟩) (by kernel_rfl) ?_
  refine wp_block ?_
  refine wp_count (fun k A w' => ∃ u6 : Nat → Value, A = ⟨(by8 b :: pt q :: un :: .string { data := #[] } :: pt q1 :: u6 5 :: .agg (bc l) :: iN .i64 k :: u6 8 :: u6 9 :: u6 10 :: u6 11 :: u6 12 :: u6 13 :: u6 14 :: u6 15 :: u6 16 :: List.replicate 2 un).toArray, []⟩ ∧ HA w [(q1, 39, bc (xoP l b k))] w') 64 ?_ ?_ ?_
  · exact ⟨fun ii => (([(5, undef), (8, undef), (9, undef), (10, undef), (11, undef), (12, undef), (13, undef), (14, undef), (15, undef), (16, undef)] : List (Nat × Value)).find? (·.1 == ii)).elim undef (·.2), by kernel_rfl, (by rw [xoP_zero]; exact h5)⟩
  · rintro k hk _ w7 ⟨u6, rfl, h8⟩
    refine wp_seq ?_
    -- region 3
    refine wl_region ?_
    refine wl_val (.bool true) (by kernel_rfl) (run_lss (k := .i64) (a := k) (b := 64) (by kernel_rfl) (by kernel_rfl) true (decide_eq_true (by omega))) ?_
    refine wl_nil ?_
    refine then_at (F := ⟨(by8 b :: pt q :: un :: .string { data := #[] } :: pt q1 :: u6 5 :: .agg (bc l) :: iN .i64 k :: .bool true :: u6 9 :: u6 10 :: u6 11 :: u6 12 :: u6 13 :: u6 14 :: u6 15 :: u6 16 :: List.replicate 2 un).toArray, []⟩) (by kernel_rfl) ?_
    refine wp_seq ?_
    refine wp_cond_true (by kernel_rfl) ?_
    refine wp_skip ?_
    refine then_at (F := ⟨(by8 b :: pt q :: un :: .string { data := #[] } :: pt q1 :: u6 5 :: .agg (bc l) :: iN .i64 k :: .bool true :: u6 9 :: u6 10 :: u6 11 :: u6 12 :: u6 13 :: u6 14 :: u6 15 :: u6 16 :: List.replicate 2 un).toArray, []⟩) (by kernel_rfl) ?_
    refine wp_seq ?_
    refine wp_block ?_
    refine wp_seq ?_
    -- region 4
    refine wl_region ?_
    refine wl_val (iN .i64 k) (by kernel_rfl) (by kernel_rfl) ?_
    refine wl_val (iN .i64 k) (by kernel_rfl) (by kernel_rfl) ?_
    refine wl_nil ?_
    refine then_at (F := ⟨(by8 b :: pt q :: un :: .string { data := #[] } :: pt q1 :: iN .i64 k :: .agg (bc l) :: iN .i64 k :: .bool true :: iN .i64 k :: u6 10 :: u6 11 :: u6 12 :: u6 13 :: u6 14 :: u6 15 :: u6 16 :: List.replicate 2 un).toArray, []⟩) (by kernel_rfl) ?_
    -- region 5
    refine wl_region ?_
    refine wl_val (iN .i64 k) (by kernel_rfl) (by kernel_rfl) ?_
    refine wl_val (.pointer (some ⟨q1, k, none⟩)) (by kernel_rfl) (run_addr_arr (q := q1) (a := k) Tryd.underlying39 (fun w => Tryd.sizeOf5 w) (by kernel_rfl) (by kernel_rfl) (by omega)) ?_
    refine wl_val (by8 (l.getD k 0)) (by kernel_rfl) (run_load1 (fun w => Tryd.isAgg5 w) (by kernel_rfl) (((h8.get 0 rfl).cell k).trans (xoP_get l b k (by omega)))) ?_
    refine wl_val (by8 b) (by kernel_rfl) (by kernel_rfl) ?_
    refine wl_val (by8 ((l.getD k 0) ^^^ b)) (by kernel_rfl) (run_xorb (a := l.getD k 0) (b := b) (by kernel_rfl) (by kernel_rfl)) ?_
    refine wl_val (.pointer (some ⟨q1, k, none⟩)) (by kernel_rfl) (run_addr_arr (q := q1) (a := k) Tryd.underlying39 (fun w => Tryd.sizeOf5 w) (by kernel_rfl) (by kernel_rfl) (by omega)) ?_
    refine wl_put (k := .u8) (z := ((((l.getD k 0) ^^^ b).toNat : Nat) : Int)) h8 0 rfl k (by rw [bc_size, (xoP_len l b k 64 hl)]; omega) (by kernel_rfl) (fun w => Tryd.sizeOf5 w) (by kernel_rfl) (by kernel_rfl) ?_
    intro w9 h10
    have h11 : HA w [(q1, 39, bc (xoP l b (k + 1)))] w9 := by
      have e : (bc (xoP l b k)).setIfInBounds k (.int .u8 ((((l.getD k 0) ^^^ b).toNat : Nat) : Int)) = bc (xoP l b (k + 1)) := (xoP_put l b k (by omega))
      rw [← e]; exact h10
    clear h10
    refine wl_nil ?_
    refine block_normal ?_
    refine then_at (F := ⟨(by8 b :: pt q :: un :: .string { data := #[] } :: pt q1 :: iN .i64 k :: .agg (bc l) :: iN .i64 k :: .bool true :: iN .i64 k :: iN .i64 k :: .pointer (some ⟨q1, k, none⟩) :: by8 (l.getD k 0) :: by8 b :: by8 ((l.getD k 0) ^^^ b) :: .pointer (some ⟨q1, k, none⟩) :: u6 16 :: List.replicate 2 un).toArray, []⟩) (by kernel_rfl) ?_
    -- region 6
    refine wl_region ?_
    refine wl_val (iN .i64 (k + 1)) (by kernel_rfl) (run_add (k := .i64) (a := k) (b := 1) (by kernel_rfl) (by kernel_rfl) (by simp only [top]; omega)) ?_
    refine wl_val (iN .i64 (k + 1)) (by kernel_rfl) (by kernel_rfl) ?_
    refine wl_nil ?_
    exact then_I ⟨fun ii => (([(5, iN .i64 k), (8, .bool true), (9, iN .i64 k), (10, iN .i64 k), (11, .pointer (some ⟨q1, k, none⟩)), (12, by8 (l.getD k 0)), (13, by8 b), (14, by8 ((l.getD k 0) ^^^ b)), (15, .pointer (some ⟨q1, k, none⟩)), (16, iN .i64 (k + 1))] : List (Nat × Value)).find? (·.1 == ii)).elim undef (·.2), by kernel_rfl, h11⟩
  · rintro _ w12 ⟨u6, rfl, h13⟩
    refine wp_seq ?_
    -- region 3
    refine wl_region ?_
    refine wl_val (.bool false) (by kernel_rfl) (run_lss (k := .i64) (a := 64) (b := 64) (by kernel_rfl) (by kernel_rfl) false (by decide)) ?_
    refine wl_nil ?_
    refine then_at (F := ⟨(by8 b :: pt q :: un :: .string { data := #[] } :: pt q1 :: u6 5 :: .agg (bc l) :: iN .i64 64 :: .bool false :: u6 9 :: u6 10 :: u6 11 :: u6 12 :: u6 13 :: u6 14 :: u6 15 :: u6 16 :: List.replicate 2 un).toArray, []⟩) (by kernel_rfl) ?_
    refine wp_seq ?_
    refine wp_cond_false (by kernel_rfl) ?_
    refine wp_exit ?_
    repeat first | refine then_exit ?_ | refine block_exit ?_ | refine block_exit_ne (by decide) ?_
    refine then_at (F := ⟨(by8 b :: pt q :: un :: .string { data := #[] } :: pt q1 :: u6 5 :: .agg (bc l) :: iN .i64 64 :: .bool false :: u6 9 :: u6 10 :: u6 11 :: u6 12 :: u6 13 :: u6 14 :: u6 15 :: u6 16 :: List.replicate 2 un).toArray, []⟩) (by kernel_rfl) ?_
    refine wp_seq ?_
    -- region 7
    refine wl_region ?_
    refine wl_val (.slice (some ⟨q1, 0, none⟩) 64 64) (by kernel_rfl) (run_cut39 (q := q1) (by kernel_rfl)) ?_
    refine wl_val (.string (⟨((xoP l b 64).take 64).toArray⟩)) (by kernel_rfl) (run_textg (q := q1) (m := 64) (c := 64) (l := xoP l b 64) (by kernel_rfl) (h13.get 0 rfl) (by rw [(xoP_len l b 64 64 hl)]; omega)) ?_
    refine wl_val (.string (⟨((xoP l b 64).take 64).toArray⟩)) (by kernel_rfl) (by kernel_rfl) ?_
    refine wl_nil ?_
    refine then_at (F := ⟨(by8 b :: pt q :: un :: .string (⟨((xoP l b 64).take 64).toArray⟩) :: pt q1 :: u6 5 :: .agg (bc l) :: iN .i64 64 :: .bool false :: u6 9 :: u6 10 :: u6 11 :: u6 12 :: u6 13 :: u6 14 :: u6 15 :: u6 16 :: .slice (some ⟨q1, 0, none⟩) 64 64 :: .string (⟨((xoP l b 64).take 64).toArray⟩) :: List.replicate 0 un).toArray, []⟩) (by kernel_rfl) ?_
    refine wp_ret ?_
    repeat first | refine then_ret ?_ | refine block_ret ?_
    exact bodyPost_ret (v := .string ⟨((xoP l b 64).take 64).toArray⟩) (by kernel_rfl) rfl ⟨by rw [xoP_end l b 64 hl, List.take_of_length_le (by rw [xbP_len, hl]; exact Nat.le_refl _)], h13.old⟩

set_option linter.unusedVariables false in
set_option maxRecDepth 100000 in
set_option maxHeartbeats 2000000 in
theorem behindc (s : ByteArray) (ps : List ByteArray) (n : Nat) (hn : ps.length = n) (hle : n ≤ 1000) (o : Option Addr) (c : Nat) (w : World) (hps : ∀ i, i < n → ∃ q, o = some ⟨q, 0, none⟩ ∧ w.cell? ⟨q, i, none⟩ = some (.string (ps.getD i ByteArray.empty))) (ho : o = none → c = 0) :
    Calls Tryd.prog 23 #[.string s, .slice o n c] w fun e w' => ∃ v, e = .returned v ∧ (∃ o' c', v = .slice o' (n + 1) c' ∧ ∀ i, i < n + 1 → ∃ q, o' = some ⟨q, 0, none⟩ ∧ w'.cell? ⟨q, i, none⟩ = some (.string ((s :: ps).getD i ByteArray.empty))) ∧ Below w.heap.size w w' := by
  have H0 := HA.start w
  go_enter Tryd.func23, Tryd.ntmps23
  refine wp_seq ?_
  -- region 0
  refine wl_region ?_
  refine wl_val (.slice none 0 0) (by kernel_rfl) (by kernel_rfl) ?_
  refine wl_nil ?_
  refine then_at (F := ⟨(.string s :: .slice o n c :: un :: un :: .slice none 0 0 :: List.replicate 4 un).toArray, []⟩) (by kernel_rfl) ?_
  refine wp_seq ?_
  -- region 1
  refine wl_region ?_
  refine wl_val (.string s) (by kernel_rfl) (by kernel_rfl) ?_
  refine wl_behind (s := s) (ps := ps) (o := o) (n := n) (c := c) H0 hn hle hps ho (by kernel_rfl) (run_bs1 (u := s) (by kernel_rfl)) (fun _ => by kernel_rfl) (fun _ _ => by kernel_rfl) (fun _ => by kernel_rfl) (fun _ => by kernel_rfl) (fun _ => by kernel_rfl) ?_
  intro q3 o' c' w1 h2 hcell
  refine wl_val ((.slice o' (n + 1) c')) (by kernel_rfl) (by kernel_rfl) ?_
  refine wl_nil ?_
  refine then_at (F := ⟨(.string s :: .slice o n c :: un :: un :: (.slice o' (n + 1) c') :: .string s :: .slice (some ⟨q3, 0, none⟩) 1 1 :: .slice o n c :: (.slice o' (n + 1) c') :: List.replicate 0 un).toArray, []⟩) (by kernel_rfl) ?_
  refine wp_ret ?_
  repeat first | refine then_ret ?_ | refine block_ret ?_
  exact bodyPost_ret (v := .slice o' (n + 1) c') (by kernel_rfl) rfl ⟨_, rfl, ⟨o', c', rfl, hcell⟩, h2.old⟩

theorem sz2 (a b : ByteArray) (ha : a.size ≤ 1000) (hb : b.size ≤ 1000) : ∀ i, i ≤ 2 → szP [a, b] i ≤ 2251799813685248 := fun i hi => by
  have h := szP_mono [a, b] i 2 hi
  have e : szP [a, b] 2 = 0 + a.size + b.size := rfl
  omega
theorem szc (s : ByteArray) (ps : List ByteArray) (n : Nat) (hs : s.size ≤ 1000) (h : szP ps n ≤ 1125899906842624) : ∀ i, i ≤ n + 1 → szP (s :: ps) i ≤ 2251799813685248 := fun i hi => by
  have h2 := szP_mono (s :: ps) i (n + 1) hi
  rw [szP_cons] at h2
  omega

set_option linter.unusedVariables false in
set_option maxRecDepth 100000 in
set_option maxHeartbeats 2000000 in
theorem hmacc (k : ByteArray) (hk : k.size ≤ 2251799813685248) (ps : List ByteArray) (n : Nat) (hn : ps.length = n) (hle : n ≤ 1000) (o : Option Addr) (c : Nat) (w : World) (VV : Vars w) (hps : ∀ i, i < n → ∃ q, o = some ⟨q, 0, none⟩ ∧ w.cell? ⟨q, i, none⟩ = some (.string (ps.getD i ByteArray.empty))) (ho : o = none → c = 0) (hsz : szP ps n ≤ 1125899906842624) :
    Calls Tryd.prog 10 #[.string k, .slice o n c] w fun e w' => e = .returned (.string ⟨(hmP k (catP ps n)).toArray⟩) ∧ Below w.heap.size w w' := by
  have hsz1 : ∀ i, i ≤ n + 1 → szP ((ByteArray.mk (xbP (kbP k) 54).toArray) :: ps) i ≤ 2251799813685248 := szc _ ps n (by rw [sz_mk, xbP_len, kbP_len]; decide) hsz
  have hm_eq : Value.string ⟨(digP KS (catP [ByteArray.mk (xbP (kbP k) 92).toArray, ByteArray.mk (digP KS (catP ((ByteArray.mk (xbP (kbP k) 54).toArray) :: ps) (n + 1))).toArray] 2)).toArray⟩ = .string ⟨(hmP k (catP ps n)).toArray⟩ := by
    have e1 : catP [ByteArray.mk (xbP (kbP k) 92).toArray, ByteArray.mk (digP KS (catP ((ByteArray.mk (xbP (kbP k) 54).toArray) :: ps) (n + 1))).toArray] 2 = xbP (kbP k) 92 ++ digP KS (catP ((ByteArray.mk (xbP (kbP k) 54).toArray) :: ps) (n + 1)) := catP_cons _ _ 1
    have e2 : catP ((ByteArray.mk (xbP (kbP k) 54).toArray) :: ps) (n + 1) = xbP (kbP k) 54 ++ catP ps n := catP_cons _ _ n
    rw [e1, e2]; rfl
  have H0 := HA.start w
  go_enter Tryd.func10, Tryd.ntmps10
  refine wp_seq ?_
  -- region 0
  refine wl_region ?_
  refine wl_val (.string { data := #[] }) (by kernel_rfl) (by kernel_rfl) ?_
  refine wl_nil ?_
  refine then_at (F := ⟨(.string k :: .slice o n c :: un :: un :: .string { data := #[] } :: List.replicate 14 un).toArray, []⟩) (by kernel_rfl) ?_
  refine wp_seq ?_
  -- region 1
  refine wl_region ?_
  refine wl_val (.string k) (by kernel_rfl) (by kernel_rfl) ?_
  refine wl_call (v := .agg (bc (kbP k))) H0 (by kernel_rfl) enter20 #[.string k] (by kernel_rfl) (blockc k hk w (VV.below H0.old VV.big)) ?_
  intro w1 h2
  refine wl_make h2 39 (by kernel_rfl) run_allocK ?_
  intro q3 w4 h5
  refine wl_fill (c' := bc (kbP k)) h5 0 rfl (by kernel_rfl) (by kernel_rfl) (by kernel_rfl) (by rw [bc_size, bc_size, (kbP_len k), (List.length_replicate)]) (infoK (kbP k) (kbP_len k)) (one_bc (kbP k)) ?_
  intro w6 (h7 : HA w [(q3, 39, bc (kbP k))] w6)
  refine wl_nil ?_
  refine then_at (F := ⟨(.string k :: .slice o n c :: un :: un :: .string { data := #[] } :: pt q3 :: un :: .string k :: .agg (bc (kbP k)) :: List.replicate 10 un).toArray, []⟩) (by kernel_rfl) ?_
  refine wp_seq ?_
  -- region 2
  refine wl_region ?_
  refine wl_val (.func (.func 21) #[] #[.pointer (some ⟨q3, 0, none⟩)]) (by kernel_rfl) (by kernel_rfl) ?_
  refine wl_val (.func (.func 21) #[] #[.pointer (some ⟨q3, 0, none⟩)]) (by kernel_rfl) (by kernel_rfl) ?_
  refine wl_nil ?_
  refine then_at (F := ⟨(.string k :: .slice o n c :: un :: un :: .string { data := #[] } :: pt q3 :: .func (.func 21) #[] #[pt q3] :: .string k :: .agg (bc (kbP k)) :: .func (.func 21) #[] #[pt q3] :: List.replicate 9 un).toArray, []⟩) (by kernel_rfl) ?_
  refine wp_seq ?_
  -- region 3
  refine wl_region ?_
  refine wl_val (.func (.func 21) #[] #[.pointer (some ⟨q3, 0, none⟩)]) (by kernel_rfl) (by kernel_rfl) ?_
  refine wl_callv (by kernel_rfl) enter21 (cap := #[.pointer (some ⟨q3, 0, none⟩)]) (by kernel_rfl) #[by8 92, .pointer (some ⟨q3, 0, none⟩)] (by kernel_rfl) (turnedc 92 q3 (kbP k) (kbP_len k) w6 (h7.get 0 rfl)) ?_
  rintro _ w8 ⟨rfl, b10⟩
  refine ⟨_, rfl, ?_⟩
  have h9 := h7.keep _ _ b10
  refine wl_val (.func (.func 21) #[] #[.pointer (some ⟨q3, 0, none⟩)]) (by kernel_rfl) (by kernel_rfl) ?_
  refine wl_callv (by kernel_rfl) enter21 (cap := #[.pointer (some ⟨q3, 0, none⟩)]) (by kernel_rfl) #[by8 54, .pointer (some ⟨q3, 0, none⟩)] (by kernel_rfl) (turnedc 54 q3 (kbP k) (kbP_len k) w8 (h9.get 0 rfl)) ?_
  rintro _ w11 ⟨rfl, b13⟩
  refine ⟨_, rfl, ?_⟩
  have h12 := h9.keep _ _ b13
  refine wl_val (.slice o n c) (by kernel_rfl) (by kernel_rfl) ?_
  refine wl_callq h12 (by kernel_rfl) enter23 #[.string (ByteArray.mk (xbP (kbP k) 54).toArray), .slice o n c] (by kernel_rfl) (behindc (ByteArray.mk (xbP (kbP k) 54).toArray) ps n hn hle o c w11 (fun i hi => (hps i hi).imp fun q h => ⟨h.1, (h12.old.cell (p := ⟨q, i, none⟩) (World.block_lt_of_cell? w ⟨q, i, none⟩ h.2)).trans h.2⟩) ho) ?_
  rintro _ w14 ⟨o', c', rfl, hcell⟩ h15
  refine wl_call (v := .string (ByteArray.mk (digP KS (catP ((ByteArray.mk (xbP (kbP k) 54).toArray) :: ps) (n + 1))).toArray)) h15 (by kernel_rfl) enter22 #[(.slice o' (n + 1) c')] (by kernel_rfl) (shaS' ((ByteArray.mk (xbP (kbP k) 54).toArray) :: ps) (n + 1) (by rw [List.length_cons, hn]) o' c' w14 (VV.below h15.old VV.big) hcell hsz1 (by omega)) ?_
  intro w16 h17
  refine wl_mks (n := 2) (m := 2) (c := psc ([ByteArray.mk (xbP (kbP k) 92).toArray, ByteArray.mk (digP KS (catP ((ByteArray.mk (xbP (kbP k) 54).toArray) :: ps) (n + 1))).toArray])) h17 9 (by kernel_rfl) (run_bs2 (u := ByteArray.mk (xbP (kbP k) 92).toArray) (v := ByteArray.mk (digP KS (catP ((ByteArray.mk (xbP (kbP k) 54).toArray) :: ps) (n + 1))).toArray) (by kernel_rfl) (by kernel_rfl)) ?_
  intro q18 w19 h20
  refine wl_call (v := .string (ByteArray.mk (hmP k (catP ps n)).toArray)) h20 (by kernel_rfl) enter22 #[.slice (some ⟨q18, 0, none⟩) 2 2] (by kernel_rfl) (ret_eq (shaS' ([ByteArray.mk (xbP (kbP k) 92).toArray, ByteArray.mk (digP KS (catP ((ByteArray.mk (xbP (kbP k) 54).toArray) :: ps) (n + 1))).toArray]) 2 rfl (some ⟨q18, 0, none⟩) 2 w19 (VV.below h20.old VV.big) (parts_ofc (h20.get 0 rfl)) (sz2 _ _ (by rw [sz_mk, xbP_len, kbP_len]; decide) (by rw [sz_mk, digP_len]; decide)) (by decide)) hm_eq) ?_
  intro w21 h22
  refine wl_val (.string (ByteArray.mk (hmP k (catP ps n)).toArray)) (by kernel_rfl) (by kernel_rfl) ?_
  refine wl_nil ?_
  refine then_at (F := ⟨(.string k :: .slice o n c :: un :: un :: .string (ByteArray.mk (hmP k (catP ps n)).toArray) :: pt q3 :: .func (.func 21) #[] #[pt q3] :: .string k :: .agg (bc (kbP k)) :: .func (.func 21) #[] #[pt q3] :: .func (.func 21) #[] #[pt q3] :: .string (ByteArray.mk (xbP (kbP k) 92).toArray) :: .func (.func 21) #[] #[pt q3] :: .string (ByteArray.mk (xbP (kbP k) 54).toArray) :: .slice o n c :: (.slice o' (n + 1) c') :: .string (ByteArray.mk (digP KS (catP ((ByteArray.mk (xbP (kbP k) 54).toArray) :: ps) (n + 1))).toArray) :: .slice (some ⟨q18, 0, none⟩) 2 2 :: .string (ByteArray.mk (hmP k (catP ps n)).toArray) :: List.replicate 0 un).toArray, []⟩) (by kernel_rfl) ?_
  refine wp_ret ?_
  repeat first | refine then_ret ?_ | refine block_ret ?_
  exact bodyPost_ret (v := .string ⟨(hmP k (catP ps n)).toArray⟩) (by kernel_rfl) rfl ⟨rfl, h22.old⟩

set_option linter.unusedVariables false in
set_option maxRecDepth 100000 in
set_option maxHeartbeats 2000000 in
theorem extractc (k : ByteArray) (hk : k.size ≤ 2251799813685248) (t : ByteArray) (ht : t.size ≤ 1125899906842624) (w : World) (VV : Vars w) :
    Calls Tryd.prog 12 #[.string k, .string t] w fun e w' => e = .returned (.string ⟨(hmP k (bl t)).toArray⟩) ∧ Below w.heap.size w w' := by
  have H0 := HA.start w
  go_enter Tryd.func12, Tryd.ntmps12
  refine wp_seq ?_
  -- region 0
  refine wl_region ?_
  refine wl_val (.string { data := #[] }) (by kernel_rfl) (by kernel_rfl) ?_
  refine wl_nil ?_
  refine then_at (F := ⟨(.string k :: .string t :: un :: un :: .string { data := #[] } :: List.replicate 4 un).toArray, []⟩) (by kernel_rfl) ?_
  refine wp_seq ?_
  -- region 1
  refine wl_region ?_
  refine wl_val (.string k) (by kernel_rfl) (by kernel_rfl) ?_
  refine wl_val (.string t) (by kernel_rfl) (by kernel_rfl) ?_
  refine wl_mks (n := 1) (m := 1) (c := psc [t]) H0 9 (by kernel_rfl) (run_bs1 (u := t) (by kernel_rfl)) ?_
  intro q1 w2 h3
  refine wl_call (v := .string (ByteArray.mk (hmP k (bl t)).toArray)) h3 (by kernel_rfl) enter10 #[.string k, .slice (some ⟨q1, 0, none⟩) 1 1] (by kernel_rfl) (hmacc k hk ([t]) 1 rfl (by decide) (some ⟨q1, 0, none⟩) 1 w2 (VV.below h3.old VV.big) (parts_ofc (h3.get 0 rfl)) (fun h => by cases h) (by show 0 + t.size ≤ _; omega)) ?_
  intro w4 h5
  refine wl_val (.string (ByteArray.mk (hmP k (bl t)).toArray)) (by kernel_rfl) (by kernel_rfl) ?_
  refine wl_nil ?_
  refine then_at (F := ⟨(.string k :: .string t :: un :: un :: .string (ByteArray.mk (hmP k (bl t)).toArray) :: .string k :: .string t :: .slice (some ⟨q1, 0, none⟩) 1 1 :: .string (ByteArray.mk (hmP k (bl t)).toArray) :: List.replicate 0 un).toArray, []⟩) (by kernel_rfl) ?_
  refine wp_ret ?_
  repeat first | refine then_ret ?_ | refine block_ret ?_
  exact bodyPost_ret (v := .string ⟨(hmP k (bl t)).toArray⟩) (by kernel_rfl) rfl ⟨rfl, h5.old⟩
end Go.Proofs.YtmlldbkhphngeaaDoor
