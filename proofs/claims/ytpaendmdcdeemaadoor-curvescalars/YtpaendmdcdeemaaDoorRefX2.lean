/-
  Lists that are filled one by one; sums of digits.
-/
import Derived.Test.YtpaendmdcdeemaaDoorRefX1
namespace Go.Proofs.YtpaendmdcdeemaaDoor
open Go.RowKit Num

/-- k of a list are laid, the rest is nought -/
def fillL (S : List Nat) (k : Nat) : List Nat := S.take k ++ List.replicate (16 - k) 0
theorem fill_zero (S : List Nat) : fillL S 0 = List.replicate 16 0 := rfl
theorem fill_len (S : List Nat) (hS : S.length = 16) (k : Nat) (hk : k ≤ 16) : (fillL S k).length = 16 := by unfold fillL; simp; omega
theorem fill_put (S : List Nat) (hS : S.length = 16) (k : Nat) (hk : k < 16) : (fillL S k).set k (dg S k) = fillL S (k + 1) := by
  unfold fillL
  have hlen : (S.take k).length = k := by simp; omega
  rw [List.set_append_right _ _ (by omega), hlen, Nat.sub_self, show 16 - k = (16 - (k + 1)) + 1 by omega, List.replicate_succ, List.set_cons_zero, dg_get S k (by omega), List.take_add_one, List.getElem?_eq_getElem (by omega), List.append_assoc]
  rfl
theorem fill_end (S : List Nat) (hS : S.length = 16) : fillL S 16 = S := by unfold fillL; rw [List.take_of_length_le (by omega)]; simp
theorem dig_dg (n k : Nat) (hk : k < 16) : dg (digs 65536 16 n) k = n / 65536 ^ k % 65536 := by
  rw [dg_get _ k (by rw [digs_length]; exact hk), digs_get]
theorem num_zip (B : Nat) : ∀ (l m : List Nat), l.length = m.length → num B (List.zipWith (· + ·) l m) = num B l + num B m
  | [], [], _ => rfl
  | x :: l, y :: m, h => by
    have := num_zip B l m (by simpa using h)
    simp only [List.zipWith_cons_cons, num]
    rw [this, Nat.mul_add]
    omega
/-- sums digit by digit -/
def addD (a b : Nat) : List Nat := List.zipWith (· + ·) (digs 65536 16 a) (digs 65536 16 b)
theorem addD_len (a b : Nat) : (addD a b).length = 16 := by unfold addD; rw [List.length_zipWith, digs_length, digs_length]; rfl
theorem addD_dg (a b k : Nat) (hk : k < 16) : dg (addD a b) k = a / 65536 ^ k % 65536 + b / 65536 ^ k % 65536 := by
  rw [dg_get _ k (by rw [addD_len]; exact hk)]
  unfold addD
  rw [List.getElem_zipWith, digs_get, digs_get]
theorem addD_num (a b : Nat) (ha : a < 65536 ^ 16) (hb : b < 65536 ^ 16) : num 65536 (addD a b) = a + b := by
  unfold addD
  rw [num_zip _ _ _ (by rw [digs_length, digs_length]), num_digs, num_digs, Nat.mod_eq_of_lt ha, Nat.mod_eq_of_lt hb]
theorem addD_bound (a b : Nat) : ∀ x ∈ addD a b, x < 4398046511104 := fun x hx => by
  obtain ⟨k, hk, rfl⟩ := List.mem_iff_getElem.1 hx
  rw [addD_len] at hk
  rw [← dg_get _ k (by rw [addD_len]; exact hk), addD_dg a b k hk]
  have h1 : a / 65536 ^ k % 65536 < 65536 := Nat.mod_lt _ (by decide)
  have h2 : b / 65536 ^ k % 65536 < 65536 := Nat.mod_lt _ (by decide)
  omega
theorem fill_cells (S : List Nat) (hS : S.length = 16) (k : Nat) (hk : k < 16) (x : Nat) (hx : x = dg S k) : (ul (fillL S k)).setIfInBounds k (.int .u64 (x : Int)) = ul (fillL S (k + 1)) := by
  rw [ul_put, hx, fill_put S hS k hk]
/-- bytes of an array -/
theorem arr_byte (l : List UInt8) (hl : l.length = 32) (i : Nat) (hi : i < 32) : (cs l).toArray[i]? = some (iN .u8 (sb ⟨l.toArray⟩ i)) := by
  have hs : i < (⟨l.toArray⟩ : ByteArray).size := by show i < l.toArray.size; simp; omega
  rw [← sb_get ⟨l.toArray⟩ i hs]
  simp [cs, List.getElem?_eq_getElem (show i < l.length by omega)]
  rfl
theorem sb_dig (s : ByteArray) (k : Nat) (hk : k < 16) : (sb s (2 * k) ||| sb s (2 * k + 1) * 2 ^ 8) = dg (digs 65536 16 (numS s)) k := by
  rw [dig_dg _ k hk, or16 _ _ (sb_lt s _)]
  unfold sb
  rw [pow2, Nat.pow_succ, ← Nat.div_div_eq_div_mul]
  omega
/-- the highest bit is struck -/
def topD (n : Nat) : List Nat := (digs 65536 16 n).set 15 (dg (digs 65536 16 n) 15 &&& 32767)
theorem topD_len (n : Nat) : (topD n).length = 16 := by unfold topD; rw [List.length_set, digs_length]
theorem topD_bound (n : Nat) : ∀ x ∈ topD n, x < 4398046511104 := fun x hx => by
  unfold topD at hx
  have h1 := digs_lt 65536 (by decide) 16 n
  rcases List.mem_or_eq_of_mem_set hx with h | h
  · have := h1 x h; omega
  · have h2 : dg (digs 65536 16 n) 15 &&& 32767 = dg (digs 65536 16 n) 15 % 32768 := Nat.and_two_pow_sub_one_eq_mod _ 15
    omega
theorem topD_num (n : Nat) (hn : n < 65536 ^ 16) : num 65536 (topD n) = n % 2 ^ 255 := by
  have h2 : dg (digs 65536 16 n) 15 &&& 32767 = dg (digs 65536 16 n) 15 % 32768 := Nat.and_two_pow_sub_one_eq_mod _ 15
  have h := num_set 65536 (digs 65536 16 n) 15 (dg (digs 65536 16 n) 15 % 32768) (by rw [digs_length]; decide)
  unfold topD
  rw [h2]
  rw [digs_get, num_digs, Nat.mod_eq_of_lt hn] at h
  rw [dig_dg n 15 (by decide)] at h ⊢
  generalize num 65536 ((digs 65536 16 n).set 15 (n / 65536 ^ 15 % 65536 % 32768)) = m at *
  have e1 : (65536 : Nat) ^ 15 = 1766847064778384329583297500742918515827483896875618958121606201292619776 := by decide
  have e2 : (2 : Nat) ^ 255 = 57896044618658097711785492504343953926634992332820282019728792003956564819968 := by decide
  have e3 : (65536 : Nat) ^ 16 = 115792089237316195423570985008687907853269984665640564039457584007913129639936 := by decide
  rw [e1] at h
  rw [e2]
  rw [e3] at hn
  omega
theorem numS_arr (l : List UInt8) (hl : l.length = 32) : numS ⟨l.toArray⟩ < 65536 ^ 16 := by
  have h1 := num_lt 256 (bts ⟨l.toArray⟩) (bts_lt _)
  rw [bts_length] at h1
  have e : (⟨l.toArray⟩ : ByteArray).size = 32 := by show l.toArray.size = 32; simp [hl]
  rw [e] at h1
  exact Nat.lt_of_lt_of_le h1 (by decide)
theorem any_num (l : List UInt8) (hl : l.length = 32) : num 65536 (topD (numS ⟨l.toArray⟩)) % P = anyP l := by
  rw [topD_num _ (numS_arr l hl)]
  rfl
theorem neg16 (a : Nat) (ha : a < P) (h : a ≠ 0) : P - a = negP a := by
  unfold negP
  exact (Nat.mod_eq_of_lt (by omega)).symm
theorem sub16 (a b : Nat) (hb : b < P) : addP a (negP b) = subP a b := by
  unfold addP negP subP
  rw [Nat.add_mod_mod, Nat.add_sub_assoc (Nat.le_of_lt hb)]
end Go.Proofs.YtpaendmdcdeemaaDoor

namespace Go.Proofs.YtpaendmdcdeemaaDoor
open Go.RowKit Num

theorem eq32 (w : World) (l m : List Nat) (hl : l.length = 16) (hm : m.length = 16) : (Op.equalIn 10000 32 (.agg (cl .u32 l)) (.agg (cl .u32 m))).run Tryd.prog w = .ok (decide (l = m)) w :=
  run_eq_array w 9998 32 30 16 .u32 .u32 l m hl hm (by kernel_rfl) (by kernel_rfl) (fun _ => by simp [go_sem]) (fun c i v w h => by simp [go_sem, part, h])
theorem digs_eq (a b : Nat) (ha : a < 65536 ^ 16) (hb : b < 65536 ^ 16) : (digs 65536 16 a = digs 65536 16 b) ↔ a = b := by
  refine ⟨fun h => ?_, fun h => by rw [h]⟩
  have := congrArg (num 65536) h
  rwa [num_digs, num_digs, Nat.mod_eq_of_lt ha, Nat.mod_eq_of_lt hb] at this
theorem run_eq32 {ρ : Operand → Value} {x y : Operand} (a b : Nat) {w : World} {dst : Option Tmp} {ty : TypeId} {pos : String} {aft : Array Edge} {gd : Option (Nat × Bool)} (ha : a < 65536 ^ 16) (hb : b < 65536 ^ 16) (hx : ρ x = rarr a) (hy : ρ y = rarr b) (t : Bool) (ht : decide (a = b) = t) :
    (execOp ρ ⟨dst, .binOp .eql 32 x y 32, ty, pos, aft, gd⟩).run Tryd.prog w = .ok (.value (.bool t)) w := by
  have h := eq32 w (digs 65536 16 a) (digs 65536 16 b) (digs_length _ _ _) (digs_length _ _ _)
  rw [decide_eq_decide.2 (digs_eq a b ha hb), ht] at h
  simp only [execOp, hx, hy, rarr, rl]
  have h2 : (Op.equalIn Op.maxDepth 32 (.agg (cl .u32 (digs 65536 16 a))) (.agg (cl .u32 (digs 65536 16 b)))).run Tryd.prog w = .ok t w := h
  simp [binOp, go_sem, Op.equal, h2]
end Go.Proofs.YtpaendmdcdeemaaDoor

namespace Go.Proofs.YtpaendmdcdeemaaDoor
open Go.RowKit Num

theorem dgD_lt2 (n k : Nat) (hk : k < 16) : dg (digs 65536 16 n) k < 65536 := by rw [dig_dg n k hk]; exact Nat.mod_lt _ (by decide)

set_option linter.unusedVariables false in
set_option maxRecDepth 100000 in
set_option maxHeartbeats 2000000 in
theorem rany_any (l : List UInt8) (hl : l.length = 32) (w : World) : Calls Tryd.prog 66 #[.agg (cs l).toArray] w fun e w' => e = .returned (rarr (anyP l)) ∧ Below w.heap.size w w' := by
  have H0 := HA.start w
  go_enter Tryd.func66, Tryd.ntmps66
  refine wp_seq ?_
  -- region 0
  refine wl_region ?_
  refine wl_make H0 41 (by kernel_rfl) (run_box41 (c := (cs l).toArray) (by kernel_rfl)) ?_
  intro q1 w2 h3
  refine wl_make h3 32 (by kernel_rfl) run_alloc32 ?_
  intro q4 w5 h6
  refine wl_nil ?_
  refine then_at (F := ⟨(.agg (cs l).toArray :: pt q1 :: pt q4 :: List.replicate 27 un).toArray, []⟩) (by kernel_rfl) ?_
  refine wp_seq ?_
  -- region 1
  refine wl_region ?_
  refine wl_make h6 116 (by kernel_rfl) run_alloc116 ?_
  intro q7 w8 h9
  refine wl_nil ?_
  refine then_at (F := ⟨(.agg (cs l).toArray :: pt q1 :: pt q4 :: pt q7 :: List.replicate 26 un).toArray, []⟩) (by kernel_rfl) ?_
  refine wp_seq ?_
  refine wp_seq ?_
  -- region 2
  refine wl_region ?_
  refine wl_val (iN .i64 0) (by kernel_rfl) (by kernel_rfl) ?_
  refine wl_nil ?_
  refine then_at (F := ⟨(.agg (cs l).toArray :: pt q1 :: pt q4 :: pt q7 :: iN .i64 0 :: List.replicate 25 un).toArray, []⟩) (by kernel_rfl) ?_
  refine wp_block ?_
  refine wp_count (fun k A w' => ∃ u10 : Nat → Value, A = ⟨(.agg (cs l).toArray :: pt q1 :: pt q4 :: pt q7 :: iN .i64 k :: u10 5 :: u10 6 :: u10 7 :: u10 8 :: u10 9 :: u10 10 :: u10 11 :: u10 12 :: u10 13 :: u10 14 :: u10 15 :: u10 16 :: u10 17 :: u10 18 :: u10 19 :: u10 20 :: u10 21 :: u10 22 :: u10 23 :: List.replicate 6 un).toArray, []⟩ ∧ HA w [(q7, 116, ul (fillL (digs 65536 16 (numS ⟨l.toArray⟩)) k)), (q4, 32, rl 0), (q1, 41, (cs l).toArray)] w') 16 ?_ ?_ ?_
  · exact ⟨fun ii => (([(5, undef), (6, undef), (7, undef), (8, undef), (9, undef), (10, undef), (11, undef), (12, undef), (13, undef), (14, undef), (15, undef), (16, undef), (17, undef), (18, undef), (19, undef), (20, undef), (21, undef), (22, undef), (23, undef)] : List (Nat × Value)).find? (·.1 == ii)).elim undef (·.2), by kernel_rfl, h9⟩
  · rintro k hk _ w11 ⟨u10, rfl, h12⟩
    refine wp_seq ?_
    refine wp_seq ?_
    -- region 3
    refine wl_region ?_
    refine wl_val (iN .i64 k) (by kernel_rfl) (by kernel_rfl) ?_
    refine wl_val (.bool true) (by kernel_rfl) (run_lss (k := .i64) (a := k) (b := 16) (by kernel_rfl) (by kernel_rfl) true (decide_eq_true hk)) ?_
    refine wl_nil ?_
    refine then_at (F := ⟨(.agg (cs l).toArray :: pt q1 :: pt q4 :: pt q7 :: iN .i64 k :: iN .i64 k :: .bool true :: u10 7 :: u10 8 :: u10 9 :: u10 10 :: u10 11 :: u10 12 :: u10 13 :: u10 14 :: u10 15 :: u10 16 :: u10 17 :: u10 18 :: u10 19 :: u10 20 :: u10 21 :: u10 22 :: u10 23 :: List.replicate 6 un).toArray, []⟩) (by kernel_rfl) ?_
    refine wp_cond_true (by kernel_rfl) ?_
    refine wp_skip ?_
    refine then_at (F := ⟨(.agg (cs l).toArray :: pt q1 :: pt q4 :: pt q7 :: iN .i64 k :: iN .i64 k :: .bool true :: u10 7 :: u10 8 :: u10 9 :: u10 10 :: u10 11 :: u10 12 :: u10 13 :: u10 14 :: u10 15 :: u10 16 :: u10 17 :: u10 18 :: u10 19 :: u10 20 :: u10 21 :: u10 22 :: u10 23 :: List.replicate 6 un).toArray, []⟩) (by kernel_rfl) ?_
    refine wp_seq ?_
    refine wp_block ?_
    -- region 5
    refine wp_region_ghost (fun _ : Nat → Nat => (⟨(.agg (cs l).toArray :: pt q1 :: pt q4 :: pt q7 :: iN .i64 k :: iN .i64 k :: .bool true :: u10 7 :: u10 8 :: iN .i64 k :: iN .i64 k :: iN .i64 (2 * k) :: .pointer (some ⟨q1, 2 * k, none⟩) :: iN .u8 (sb ⟨l.toArray⟩ (2 * k)) :: iN .u64 (sb ⟨l.toArray⟩ (2 * k)) :: iN .i64 k :: iN .i64 (2 * k) :: iN .i64 ((2 * k) + 1) :: .pointer (some ⟨q1, (2 * k) + 1, none⟩) :: iN .u8 (sb ⟨l.toArray⟩ ((2 * k) + 1)) :: iN .u64 (sb ⟨l.toArray⟩ ((2 * k) + 1)) :: iN .u64 ((sb ⟨l.toArray⟩ ((2 * k) + 1)) * 2 ^ 8) :: iN .u64 ((sb ⟨l.toArray⟩ (2 * k)) ||| ((sb ⟨l.toArray⟩ ((2 * k) + 1)) * 2 ^ 8)) :: .pointer (some ⟨q7, k, none⟩) :: List.replicate 6 un).toArray, []⟩ : Act)) (GP w [(q7, 116, ul (fillL (digs 65536 16 (numS ⟨l.toArray⟩)) k)), (q4, 32, rl 0), (q1, 41, (cs l).toArray)] 15 0 q7 116 (ul (fillL (digs 65536 16 (numS ⟨l.toArray⟩)) (k + 1)))) [iN .i64 k, iN .i64 k, iN .i64 (2 * k), .pointer (some ⟨q1, 2 * k, none⟩), iN .u8 (sb ⟨l.toArray⟩ (2 * k)), iN .u64 (sb ⟨l.toArray⟩ (2 * k)), iN .i64 k, iN .i64 (2 * k), iN .i64 ((2 * k) + 1), .pointer (some ⟨q1, (2 * k) + 1, none⟩), iN .u8 (sb ⟨l.toArray⟩ ((2 * k) + 1)), iN .u64 (sb ⟨l.toArray⟩ ((2 * k) + 1)), iN .u64 ((sb ⟨l.toArray⟩ ((2 * k) + 1)) * 2 ^ 8), iN .u64 ((sb ⟨l.toArray⟩ (2 * k)) ||| ((sb ⟨l.toArray⟩ ((2 * k) + 1)) * 2 ^ 8)), .pointer (some ⟨q7, k, none⟩), undef] (by kernel_rfl) (by kernel_rfl) (by kernel_rfl) (by kernel_rfl) (fun _ _ _ _ h => h) (fun d hd => GP.start h12.drew (hd 15 (by decide))) ?_ ?_
    · refine AllGhost.cons (gp_plain (v := iN .i64 k) (by decide) (fun _ => by kernel_rfl) (fun _ => by kernel_rfl) (fun _ _ => (by kernel_rfl))) ?_
      refine AllGhost.cons (gp_plain (v := iN .i64 k) (by decide) (fun _ => by kernel_rfl) (fun _ => by kernel_rfl) (fun _ _ => (by kernel_rfl))) ?_
      refine AllGhost.cons (gp_plain (v := iN .i64 (2 * k)) (by decide) (fun _ => by kernel_rfl) (fun _ => by kernel_rfl) (fun _ _ => (run_mul (k := .i64) (a := 2) (b := k) (by kernel_rfl) (by kernel_rfl) (by simp only [top]; omega)))) ?_
      refine AllGhost.cons (gp_plain (v := .pointer (some ⟨q1, 2 * k, none⟩)) (by decide) (fun _ => by kernel_rfl) (fun _ => by kernel_rfl) (fun _ _ => (run_addr_arr (q := q1) (a := 2 * k) Tryd.underlying41 (fun w => Tryd.sizeOf5 w) (by kernel_rfl) (by kernel_rfl) (by omega)))) ?_
      refine AllGhost.cons (gp_cell (v := iN .u8 (sb ⟨l.toArray⟩ (2 * k))) 2 (by decide) rfl (by decide) (2 * k) (arr_byte l hl (2 * k) (by omega)) (fun w => Tryd.isAgg5 w) (fun _ => by kernel_rfl) (fun _ => by kernel_rfl) (fun _ => by kernel_rfl)) ?_
      refine AllGhost.cons (gp_plain (v := iN .u64 (sb ⟨l.toArray⟩ (2 * k))) (by decide) (fun _ => by kernel_rfl) (fun _ => by kernel_rfl) (fun _ _ => (run_conv (k := .u8) (a := sb ⟨l.toArray⟩ (2 * k)) .u64 Tryd.underlying5 Tryd.underlying22 (by kernel_rfl) (Nat.lt_trans (sb_lt _ _) (by decide))))) ?_
      refine AllGhost.cons (gp_plain (v := iN .i64 k) (by decide) (fun _ => by kernel_rfl) (fun _ => by kernel_rfl) (fun _ _ => (by kernel_rfl))) ?_
      refine AllGhost.cons (gp_plain (v := iN .i64 (2 * k)) (by decide) (fun _ => by kernel_rfl) (fun _ => by kernel_rfl) (fun _ _ => (run_mul (k := .i64) (a := 2) (b := k) (by kernel_rfl) (by kernel_rfl) (by simp only [top]; omega)))) ?_
      refine AllGhost.cons (gp_plain (v := iN .i64 ((2 * k) + 1)) (by decide) (fun _ => by kernel_rfl) (fun _ => by kernel_rfl) (fun _ _ => (run_add (k := .i64) (a := 2 * k) (b := 1) (by kernel_rfl) (by kernel_rfl) (by simp only [top]; omega)))) ?_
      refine AllGhost.cons (gp_plain (v := .pointer (some ⟨q1, (2 * k) + 1, none⟩)) (by decide) (fun _ => by kernel_rfl) (fun _ => by kernel_rfl) (fun _ _ => (run_addr_arr (q := q1) (a := (2 * k) + 1) Tryd.underlying41 (fun w => Tryd.sizeOf5 w) (by kernel_rfl) (by kernel_rfl) (by omega)))) ?_
      refine AllGhost.cons (gp_cell (v := iN .u8 (sb ⟨l.toArray⟩ ((2 * k) + 1))) 2 (by decide) rfl (by decide) ((2 * k) + 1) (arr_byte l hl ((2 * k) + 1) (by omega)) (fun w => Tryd.isAgg5 w) (fun _ => by kernel_rfl) (fun _ => by kernel_rfl) (fun _ => by kernel_rfl)) ?_
      refine AllGhost.cons (gp_plain (v := iN .u64 (sb ⟨l.toArray⟩ ((2 * k) + 1))) (by decide) (fun _ => by kernel_rfl) (fun _ => by kernel_rfl) (fun _ _ => (run_conv (k := .u8) (a := sb ⟨l.toArray⟩ ((2 * k) + 1)) .u64 Tryd.underlying5 Tryd.underlying22 (by kernel_rfl) (Nat.lt_trans (sb_lt _ _) (by decide))))) ?_
      refine AllGhost.cons (gp_plain (v := iN .u64 ((sb ⟨l.toArray⟩ ((2 * k) + 1)) * 2 ^ 8)) (by decide) (fun _ => by kernel_rfl) (fun _ => by kernel_rfl) (fun _ _ => (run_shl (k2 := .u64) (k := .u64) (a := sb ⟨l.toArray⟩ ((2 * k) + 1)) (b := 8) (by kernel_rfl) (by kernel_rfl) (by decide) (Nat.lt_trans (sb_shl _ _) (by decide))))) ?_
      refine AllGhost.cons (gp_plain (v := iN .u64 ((sb ⟨l.toArray⟩ (2 * k)) ||| ((sb ⟨l.toArray⟩ ((2 * k) + 1)) * 2 ^ 8))) (by decide) (fun _ => by kernel_rfl) (fun _ => by kernel_rfl) (fun _ _ => (run_or64 (a := sb ⟨l.toArray⟩ (2 * k)) (b := (sb ⟨l.toArray⟩ ((2 * k) + 1)) * 2 ^ 8) (by kernel_rfl) (by kernel_rfl) (Nat.lt_trans (sb_lt _ _) (by decide)) (Nat.lt_trans (sb_shl _ _) (by decide))))) ?_
      refine AllGhost.cons (gp_plain (v := .pointer (some ⟨q7, k, none⟩)) (by decide) (fun _ => by kernel_rfl) (fun _ => by kernel_rfl) (fun _ _ => (run_addr_arr (q := q7) (a := k) Tryd.underlying116 (fun w => Tryd.sizeOf22 w) (by kernel_rfl) (by kernel_rfl) (by omega)))) ?_
      refine AllGhost.cons (gp_put (k := .u64) (z := (((sb ⟨l.toArray⟩ (2 * k)) ||| ((sb ⟨l.toArray⟩ ((2 * k) + 1)) * 2 ^ 8) : Nat) : Int)) (off := k) rfl (by rw [ul_size, fill_len _ (digs_length _ _ _) k (by omega)]; exact hk) (fill_cells _ (digs_length _ _ _) k hk _ (sb_dig _ k hk)) (fun w => Tryd.sizeOf22 w) (fun _ => by kernel_rfl) (fun _ => by kernel_rfl) (fun _ => by kernel_rfl) (fun _ => by kernel_rfl)) ?_
      exact AllGhost.nil
    intro _ w13 g14
    have h15 : HA w [(q7, 116, ul (fillL (digs 65536 16 (numS ⟨l.toArray⟩)) (k + 1))), (q4, 32, rl 0), (q1, 41, (cs l).toArray)] w13 := g14
    clear g14
    refine block_normal ?_
    refine then_at (F := ⟨(.agg (cs l).toArray :: pt q1 :: pt q4 :: pt q7 :: iN .i64 k :: iN .i64 k :: .bool true :: u10 7 :: u10 8 :: iN .i64 k :: iN .i64 k :: iN .i64 (2 * k) :: .pointer (some ⟨q1, 2 * k, none⟩) :: iN .u8 (sb ⟨l.toArray⟩ (2 * k)) :: iN .u64 (sb ⟨l.toArray⟩ (2 * k)) :: iN .i64 k :: iN .i64 (2 * k) :: iN .i64 ((2 * k) + 1) :: .pointer (some ⟨q1, (2 * k) + 1, none⟩) :: iN .u8 (sb ⟨l.toArray⟩ ((2 * k) + 1)) :: iN .u64 (sb ⟨l.toArray⟩ ((2 * k) + 1)) :: iN .u64 ((sb ⟨l.toArray⟩ ((2 * k) + 1)) * 2 ^ 8) :: iN .u64 ((sb ⟨l.toArray⟩ (2 * k)) ||| ((sb ⟨l.toArray⟩ ((2 * k) + 1)) * 2 ^ 8)) :: .pointer (some ⟨q7, k, none⟩) :: List.replicate 6 un).toArray, []⟩) (by kernel_rfl) ?_
    -- region 4
    refine wl_region ?_
    refine wl_val (iN .i64 k) (by kernel_rfl) (by kernel_rfl) ?_
    refine wl_val (iN .i64 (k + 1)) (by kernel_rfl) (run_add (k := .i64) (a := k) (b := 1) (by kernel_rfl) (by kernel_rfl) (by simp only [top]; omega)) ?_
    refine wl_val (iN .i64 (k + 1)) (by kernel_rfl) (by kernel_rfl) ?_
    refine wl_nil ?_
    exact then_I ⟨fun ii => (([(5, iN .i64 k), (6, .bool true), (7, iN .i64 k), (8, iN .i64 (k + 1)), (9, iN .i64 k), (10, iN .i64 k), (11, iN .i64 (2 * k)), (12, .pointer (some ⟨q1, 2 * k, none⟩)), (13, iN .u8 (sb ⟨l.toArray⟩ (2 * k))), (14, iN .u64 (sb ⟨l.toArray⟩ (2 * k))), (15, iN .i64 k), (16, iN .i64 (2 * k)), (17, iN .i64 ((2 * k) + 1)), (18, .pointer (some ⟨q1, (2 * k) + 1, none⟩)), (19, iN .u8 (sb ⟨l.toArray⟩ ((2 * k) + 1))), (20, iN .u64 (sb ⟨l.toArray⟩ ((2 * k) + 1))), (21, iN .u64 ((sb ⟨l.toArray⟩ ((2 * k) + 1)) * 2 ^ 8)), (22, iN .u64 ((sb ⟨l.toArray⟩ (2 * k)) ||| ((sb ⟨l.toArray⟩ ((2 * k) + 1)) * 2 ^ 8))), (23, .pointer (some ⟨q7, k, none⟩))] : List (Nat × Value)).find? (·.1 == ii)).elim undef (·.2), by kernel_rfl, h15⟩
  · rintro _ w16 ⟨u10, rfl, h17⟩
    refine wp_seq ?_
    refine wp_seq ?_
    -- region 3
    refine wl_region ?_
    refine wl_val (iN .i64 16) (by kernel_rfl) (by kernel_rfl) ?_
    refine wl_val (.bool false) (by kernel_rfl) (run_lss (k := .i64) (a := 16) (b := 16) (by kernel_rfl) (by kernel_rfl) false (by decide)) ?_
    refine wl_nil ?_
    refine then_at (F := ⟨(.agg (cs l).toArray :: pt q1 :: pt q4 :: pt q7 :: iN .i64 16 :: iN .i64 16 :: .bool false :: u10 7 :: u10 8 :: u10 9 :: u10 10 :: u10 11 :: u10 12 :: u10 13 :: u10 14 :: u10 15 :: u10 16 :: u10 17 :: u10 18 :: u10 19 :: u10 20 :: u10 21 :: u10 22 :: u10 23 :: List.replicate 6 un).toArray, []⟩) (by kernel_rfl) ?_
    refine wp_cond_false (by kernel_rfl) ?_
    refine wp_exit ?_
    repeat first | refine then_exit ?_ | refine block_exit ?_ | refine block_exit_ne (by decide) ?_
    have h18 : HA w [(q7, 116, ul (digs 65536 16 (numS ⟨l.toArray⟩))), (q4, 32, rl 0), (q1, 41, (cs l).toArray)] w16 := by have h9 := h17; rw [fill_end _ (digs_length _ _ _)] at h9; exact h9
    refine then_at (F := ⟨(.agg (cs l).toArray :: pt q1 :: pt q4 :: pt q7 :: iN .i64 16 :: iN .i64 16 :: .bool false :: u10 7 :: u10 8 :: u10 9 :: u10 10 :: u10 11 :: u10 12 :: u10 13 :: u10 14 :: u10 15 :: u10 16 :: u10 17 :: u10 18 :: u10 19 :: u10 20 :: u10 21 :: u10 22 :: u10 23 :: List.replicate 6 un).toArray, []⟩) (by kernel_rfl) ?_
    refine wp_seq ?_
    -- region 6
    refine wl_region ?_
    refine wl_val (.pointer (some ⟨q7, 15, none⟩)) (by kernel_rfl) (run_addr_arr (q := q7) (a := 15) Tryd.underlying116 (fun w => Tryd.sizeOf22 w) (by kernel_rfl) (by kernel_rfl) (by decide)) ?_
    refine wl_val (iN .u64 (dg (digs 65536 16 (numS ⟨l.toArray⟩)) 15)) (by kernel_rfl) (run_load1 (fun w => Tryd.isAgg22 w) (by kernel_rfl) (((h18.get 0 rfl).cell 15).trans (ul_get _ 15 (by rw [digs_length]; decide)))) ?_
    refine wl_val (iN .u64 ((dg (digs 65536 16 (numS ⟨l.toArray⟩)) 15) &&& 32767)) (by kernel_rfl) (run_and64 (a := dg (digs 65536 16 (numS ⟨l.toArray⟩)) 15) (b := 32767) (by kernel_rfl) (by kernel_rfl) (by have := dgD_lt2 (numS ⟨l.toArray⟩) 15 (by decide); omega) (by decide)) ?_
    refine wl_val (.pointer (some ⟨q7, 15, none⟩)) (by kernel_rfl) (run_addr_arr (q := q7) (a := 15) Tryd.underlying116 (fun w => Tryd.sizeOf22 w) (by kernel_rfl) (by kernel_rfl) (by decide)) ?_
    refine wl_put (k := .u64) (z := (((dg (digs 65536 16 (numS ⟨l.toArray⟩)) 15) &&& 32767 : Nat) : Int)) h18 0 rfl 15 (by rw [ul_size, digs_length]; decide) (by kernel_rfl) (fun w => Tryd.sizeOf22 w) (by kernel_rfl) (by kernel_rfl) ?_
    intro w19 h20
    have h21 : HA w [(q7, 116, ul (topD (numS ⟨l.toArray⟩))), (q4, 32, rl 0), (q1, 41, (cs l).toArray)] w19 := (by unfold topD; rw [← ul_put]; exact h20)
    clear h20
    refine wl_nil ?_
    refine then_at (F := ⟨(.agg (cs l).toArray :: pt q1 :: pt q4 :: pt q7 :: iN .i64 16 :: iN .i64 16 :: .bool false :: u10 7 :: u10 8 :: u10 9 :: u10 10 :: u10 11 :: u10 12 :: u10 13 :: u10 14 :: u10 15 :: u10 16 :: u10 17 :: u10 18 :: u10 19 :: u10 20 :: u10 21 :: u10 22 :: u10 23 :: .pointer (some ⟨q7, 15, none⟩) :: iN .u64 (dg (digs 65536 16 (numS ⟨l.toArray⟩)) 15) :: iN .u64 ((dg (digs 65536 16 (numS ⟨l.toArray⟩)) 15) &&& 32767) :: .pointer (some ⟨q7, 15, none⟩) :: List.replicate 2 un).toArray, []⟩) (by kernel_rfl) ?_
    refine wp_seq ?_
    -- region 7
    refine wl_region ?_
    refine wl_load h21 0 rfl (by kernel_rfl) (by kernel_rfl) Tryd.underlying116 rfl (by rw [ul_size, topD_len]; exact info116) ?_
    refine wl_call (v := rarr (num 65536 (topD (numS ⟨l.toArray⟩)) % P)) h21 (by kernel_rfl) enter96 #[.agg (ul (topD (numS ⟨l.toArray⟩)))] (by kernel_rfl) (reduced_any _ (topD_len _) (topD_bound _) w19) ?_
    intro w22 h23
    refine wl_fill (c' := rl (num 65536 (topD (numS ⟨l.toArray⟩)) % P)) h23 1 rfl (by kernel_rfl) (by kernel_rfl) (by kernel_rfl) (rl_sz _ _) (info_rl _) (one_rl _) ?_
    intro w24 (h25 : HA w [(q7, 116, ul (topD (numS ⟨l.toArray⟩))), (q4, 32, rl (num 65536 (topD (numS ⟨l.toArray⟩)) % P)), (q1, 41, (cs l).toArray)] w24)
    refine wl_nil ?_
    refine then_at (F := ⟨(.agg (cs l).toArray :: pt q1 :: pt q4 :: pt q7 :: iN .i64 16 :: iN .i64 16 :: .bool false :: u10 7 :: u10 8 :: u10 9 :: u10 10 :: u10 11 :: u10 12 :: u10 13 :: u10 14 :: u10 15 :: u10 16 :: u10 17 :: u10 18 :: u10 19 :: u10 20 :: u10 21 :: u10 22 :: u10 23 :: .pointer (some ⟨q7, 15, none⟩) :: iN .u64 (dg (digs 65536 16 (numS ⟨l.toArray⟩)) 15) :: iN .u64 ((dg (digs 65536 16 (numS ⟨l.toArray⟩)) 15) &&& 32767) :: .pointer (some ⟨q7, 15, none⟩) :: .agg (ul (topD (numS ⟨l.toArray⟩))) :: rarr (num 65536 (topD (numS ⟨l.toArray⟩)) % P) :: List.replicate 0 un).toArray, []⟩) (by kernel_rfl) ?_
    refine wp_ret ?_
    repeat first | refine then_ret ?_ | refine block_ret ?_
    exact bodyPost_ret (v := rarr (num 65536 (topD (numS ⟨l.toArray⟩)) % P)) (res_cell (p := 2) (by kernel_rfl) (by kernel_rfl) (h25.get 1 rfl) Tryd.underlying32 rfl (info_rl _)) rfl ⟨by rw [any_num l hl], h25.old⟩

set_option linter.unusedVariables false in
set_option maxRecDepth 100000 in
set_option maxHeartbeats 2000000 in
theorem radd_any (a b : Nat) (ha : a < 65536 ^ 16) (hb : b < 65536 ^ 16) (w : World) : Calls Tryd.prog 98 #[rarr a, rarr b] w fun e w' => e = .returned (rarr (addP a b)) ∧ Below w.heap.size w w' := by
  have H0 := HA.start w
  go_enter Tryd.func98, Tryd.ntmps98
  refine wp_seq ?_
  -- region 0
  refine wl_region ?_
  refine wl_make H0 32 (by kernel_rfl) (run_box32 (c := rl a) (by kernel_rfl)) ?_
  intro q1 w2 h3
  refine wl_make h3 32 (by kernel_rfl) (run_box32 (c := rl b) (by kernel_rfl)) ?_
  intro q4 w5 h6
  refine wl_make h6 32 (by kernel_rfl) run_alloc32 ?_
  intro q7 w8 h9
  refine wl_nil ?_
  refine then_at (F := ⟨(rarr a :: rarr b :: pt q1 :: pt q4 :: pt q7 :: List.replicate 19 un).toArray, []⟩) (by kernel_rfl) ?_
  refine wp_seq ?_
  -- region 1
  refine wl_region ?_
  refine wl_make h9 116 (by kernel_rfl) run_alloc116 ?_
  intro q10 w11 h12
  refine wl_nil ?_
  refine then_at (F := ⟨(rarr a :: rarr b :: pt q1 :: pt q4 :: pt q7 :: pt q10 :: List.replicate 18 un).toArray, []⟩) (by kernel_rfl) ?_
  refine wp_seq ?_
  refine wp_seq ?_
  -- region 2
  refine wl_region ?_
  refine wl_val (iN .i64 0) (by kernel_rfl) (by kernel_rfl) ?_
  refine wl_nil ?_
  refine then_at (F := ⟨(rarr a :: rarr b :: pt q1 :: pt q4 :: pt q7 :: pt q10 :: iN .i64 0 :: List.replicate 17 un).toArray, []⟩) (by kernel_rfl) ?_
  refine wp_block ?_
  refine wp_count (fun k A w' => ∃ u13 : Nat → Value, A = ⟨(rarr a :: rarr b :: pt q1 :: pt q4 :: pt q7 :: pt q10 :: iN .i64 k :: u13 7 :: u13 8 :: u13 9 :: u13 10 :: u13 11 :: u13 12 :: u13 13 :: u13 14 :: u13 15 :: u13 16 :: u13 17 :: u13 18 :: u13 19 :: u13 20 :: u13 21 :: List.replicate 2 un).toArray, []⟩ ∧ HA w [(q10, 116, ul (fillL (addD a b) k)), (q7, 32, rl 0), (q4, 32, rl b), (q1, 32, rl a)] w') 16 ?_ ?_ ?_
  · exact ⟨fun ii => (([(7, undef), (8, undef), (9, undef), (10, undef), (11, undef), (12, undef), (13, undef), (14, undef), (15, undef), (16, undef), (17, undef), (18, undef), (19, undef), (20, undef), (21, undef)] : List (Nat × Value)).find? (·.1 == ii)).elim undef (·.2), by kernel_rfl, h12⟩
  · rintro k hk _ w14 ⟨u13, rfl, h15⟩
    have hx : a / 65536 ^ k % 65536 < 65536 := Nat.mod_lt _ (by decide)
    have hy : b / 65536 ^ k % 65536 < 65536 := Nat.mod_lt _ (by decide)
    refine wp_seq ?_
    refine wp_seq ?_
    -- region 3
    refine wl_region ?_
    refine wl_val (iN .i64 k) (by kernel_rfl) (by kernel_rfl) ?_
    refine wl_val (.bool true) (by kernel_rfl) (run_lss (k := .i64) (a := k) (b := 16) (by kernel_rfl) (by kernel_rfl) true (decide_eq_true hk)) ?_
    refine wl_nil ?_
    refine then_at (F := ⟨(rarr a :: rarr b :: pt q1 :: pt q4 :: pt q7 :: pt q10 :: iN .i64 k :: iN .i64 k :: .bool true :: u13 9 :: u13 10 :: u13 11 :: u13 12 :: u13 13 :: u13 14 :: u13 15 :: u13 16 :: u13 17 :: u13 18 :: u13 19 :: u13 20 :: u13 21 :: List.replicate 2 un).toArray, []⟩) (by kernel_rfl) ?_
    refine wp_cond_true (by kernel_rfl) ?_
    refine wp_skip ?_
    refine then_at (F := ⟨(rarr a :: rarr b :: pt q1 :: pt q4 :: pt q7 :: pt q10 :: iN .i64 k :: iN .i64 k :: .bool true :: u13 9 :: u13 10 :: u13 11 :: u13 12 :: u13 13 :: u13 14 :: u13 15 :: u13 16 :: u13 17 :: u13 18 :: u13 19 :: u13 20 :: u13 21 :: List.replicate 2 un).toArray, []⟩) (by kernel_rfl) ?_
    refine wp_seq ?_
    refine wp_block ?_
    -- region 5
    refine wp_region_ghost (fun _ : Nat → Nat => (⟨(rarr a :: rarr b :: pt q1 :: pt q4 :: pt q7 :: pt q10 :: iN .i64 k :: iN .i64 k :: .bool true :: u13 9 :: u13 10 :: iN .i64 k :: iN .i64 k :: .pointer (some ⟨q1, k, none⟩) :: iN .u32 (a / 65536 ^ k % 65536) :: iN .u64 (a / 65536 ^ k % 65536) :: iN .i64 k :: .pointer (some ⟨q4, k, none⟩) :: iN .u32 (b / 65536 ^ k % 65536) :: iN .u64 (b / 65536 ^ k % 65536) :: iN .u64 ((a / 65536 ^ k % 65536) + (b / 65536 ^ k % 65536)) :: .pointer (some ⟨q10, k, none⟩) :: List.replicate 2 un).toArray, []⟩ : Act)) (GP w [(q10, 116, ul (fillL (addD a b) k)), (q7, 32, rl 0), (q4, 32, rl b), (q1, 32, rl a)] 11 0 q10 116 (ul (fillL (addD a b) (k + 1)))) [iN .i64 k, iN .i64 k, .pointer (some ⟨q1, k, none⟩), iN .u32 (a / 65536 ^ k % 65536), iN .u64 (a / 65536 ^ k % 65536), iN .i64 k, .pointer (some ⟨q4, k, none⟩), iN .u32 (b / 65536 ^ k % 65536), iN .u64 (b / 65536 ^ k % 65536), iN .u64 ((a / 65536 ^ k % 65536) + (b / 65536 ^ k % 65536)), .pointer (some ⟨q10, k, none⟩), undef] (by kernel_rfl) (by kernel_rfl) (by kernel_rfl) (by kernel_rfl) (fun _ _ _ _ h => h) (fun d hd => GP.start h15.drew (hd 11 (by decide))) ?_ ?_
    · refine AllGhost.cons (gp_plain (v := iN .i64 k) (by decide) (fun _ => by kernel_rfl) (fun _ => by kernel_rfl) (fun _ _ => (by kernel_rfl))) ?_
      refine AllGhost.cons (gp_plain (v := iN .i64 k) (by decide) (fun _ => by kernel_rfl) (fun _ => by kernel_rfl) (fun _ _ => (by kernel_rfl))) ?_
      refine AllGhost.cons (gp_plain (v := .pointer (some ⟨q1, k, none⟩)) (by decide) (fun _ => by kernel_rfl) (fun _ => by kernel_rfl) (fun _ _ => (run_addr_arr (q := q1) (a := k) Tryd.underlying32 (fun w => Tryd.sizeOf30 w) (by kernel_rfl) (by kernel_rfl) (by omega)))) ?_
      refine AllGhost.cons (gp_cell (v := iN .u32 (a / 65536 ^ k % 65536)) 3 (by decide) rfl (by decide) k (rl_get a k (by omega)) (fun w => Tryd.isAgg30 w) (fun _ => by kernel_rfl) (fun _ => by kernel_rfl) (fun _ => by kernel_rfl)) ?_
      refine AllGhost.cons (gp_plain (v := iN .u64 (a / 65536 ^ k % 65536)) (by decide) (fun _ => by kernel_rfl) (fun _ => by kernel_rfl) (fun _ _ => (run_conv (k := .u32) (a := a / 65536 ^ k % 65536) .u64 Tryd.underlying30 Tryd.underlying22 (by kernel_rfl) (Nat.lt_trans (Nat.mod_lt _ (by decide)) (by decide))))) ?_
      refine AllGhost.cons (gp_plain (v := iN .i64 k) (by decide) (fun _ => by kernel_rfl) (fun _ => by kernel_rfl) (fun _ _ => (by kernel_rfl))) ?_
      refine AllGhost.cons (gp_plain (v := .pointer (some ⟨q4, k, none⟩)) (by decide) (fun _ => by kernel_rfl) (fun _ => by kernel_rfl) (fun _ _ => (run_addr_arr (q := q4) (a := k) Tryd.underlying32 (fun w => Tryd.sizeOf30 w) (by kernel_rfl) (by kernel_rfl) (by omega)))) ?_
      refine AllGhost.cons (gp_cell (v := iN .u32 (b / 65536 ^ k % 65536)) 2 (by decide) rfl (by decide) k (rl_get b k (by omega)) (fun w => Tryd.isAgg30 w) (fun _ => by kernel_rfl) (fun _ => by kernel_rfl) (fun _ => by kernel_rfl)) ?_
      refine AllGhost.cons (gp_plain (v := iN .u64 (b / 65536 ^ k % 65536)) (by decide) (fun _ => by kernel_rfl) (fun _ => by kernel_rfl) (fun _ _ => (run_conv (k := .u32) (a := b / 65536 ^ k % 65536) .u64 Tryd.underlying30 Tryd.underlying22 (by kernel_rfl) (Nat.lt_trans (Nat.mod_lt _ (by decide)) (by decide))))) ?_
      refine AllGhost.cons (gp_plain (v := iN .u64 ((a / 65536 ^ k % 65536) + (b / 65536 ^ k % 65536))) (by decide) (fun _ => by kernel_rfl) (fun _ => by kernel_rfl) (fun _ _ => (run_add (k := .u64) (a := a / 65536 ^ k % 65536) (b := b / 65536 ^ k % 65536) (by kernel_rfl) (by kernel_rfl) (by simp only [top]; omega)))) ?_
      refine AllGhost.cons (gp_plain (v := .pointer (some ⟨q10, k, none⟩)) (by decide) (fun _ => by kernel_rfl) (fun _ => by kernel_rfl) (fun _ _ => (run_addr_arr (q := q10) (a := k) Tryd.underlying116 (fun w => Tryd.sizeOf22 w) (by kernel_rfl) (by kernel_rfl) (by omega)))) ?_
      refine AllGhost.cons (gp_put (k := .u64) (z := (((a / 65536 ^ k % 65536) + (b / 65536 ^ k % 65536) : Nat) : Int)) (off := k) rfl (by rw [ul_size, fill_len _ (addD_len a b) k (by omega)]; exact hk) (fill_cells _ (addD_len a b) k hk _ (addD_dg a b k hk).symm) (fun w => Tryd.sizeOf22 w) (fun _ => by kernel_rfl) (fun _ => by kernel_rfl) (fun _ => by kernel_rfl) (fun _ => by kernel_rfl)) ?_
      exact AllGhost.nil
    intro _ w16 g17
    have h18 : HA w [(q10, 116, ul (fillL (addD a b) (k + 1))), (q7, 32, rl 0), (q4, 32, rl b), (q1, 32, rl a)] w16 := g17
    clear g17
    refine block_normal ?_
    refine then_at (F := ⟨(rarr a :: rarr b :: pt q1 :: pt q4 :: pt q7 :: pt q10 :: iN .i64 k :: iN .i64 k :: .bool true :: u13 9 :: u13 10 :: iN .i64 k :: iN .i64 k :: .pointer (some ⟨q1, k, none⟩) :: iN .u32 (a / 65536 ^ k % 65536) :: iN .u64 (a / 65536 ^ k % 65536) :: iN .i64 k :: .pointer (some ⟨q4, k, none⟩) :: iN .u32 (b / 65536 ^ k % 65536) :: iN .u64 (b / 65536 ^ k % 65536) :: iN .u64 ((a / 65536 ^ k % 65536) + (b / 65536 ^ k % 65536)) :: .pointer (some ⟨q10, k, none⟩) :: List.replicate 2 un).toArray, []⟩) (by kernel_rfl) ?_
    -- region 4
    refine wl_region ?_
    refine wl_val (iN .i64 k) (by kernel_rfl) (by kernel_rfl) ?_
    refine wl_val (iN .i64 (k + 1)) (by kernel_rfl) (run_add (k := .i64) (a := k) (b := 1) (by kernel_rfl) (by kernel_rfl) (by simp only [top]; omega)) ?_
    refine wl_val (iN .i64 (k + 1)) (by kernel_rfl) (by kernel_rfl) ?_
    refine wl_nil ?_
    exact then_I ⟨fun ii => (([(7, iN .i64 k), (8, .bool true), (9, iN .i64 k), (10, iN .i64 (k + 1)), (11, iN .i64 k), (12, iN .i64 k), (13, .pointer (some ⟨q1, k, none⟩)), (14, iN .u32 (a / 65536 ^ k % 65536)), (15, iN .u64 (a / 65536 ^ k % 65536)), (16, iN .i64 k), (17, .pointer (some ⟨q4, k, none⟩)), (18, iN .u32 (b / 65536 ^ k % 65536)), (19, iN .u64 (b / 65536 ^ k % 65536)), (20, iN .u64 ((a / 65536 ^ k % 65536) + (b / 65536 ^ k % 65536))), (21, .pointer (some ⟨q10, k, none⟩))] : List (Nat × Value)).find? (·.1 == ii)).elim undef (·.2), by kernel_rfl, h18⟩
  · rintro _ w19 ⟨u13, rfl, h20⟩
    refine wp_seq ?_
    refine wp_seq ?_
    -- region 3
    refine wl_region ?_
    refine wl_val (iN .i64 16) (by kernel_rfl) (by kernel_rfl) ?_
    refine wl_val (.bool false) (by kernel_rfl) (run_lss (k := .i64) (a := 16) (b := 16) (by kernel_rfl) (by kernel_rfl) false (by decide)) ?_
    refine wl_nil ?_
    refine then_at (F := ⟨(rarr a :: rarr b :: pt q1 :: pt q4 :: pt q7 :: pt q10 :: iN .i64 16 :: iN .i64 16 :: .bool false :: u13 9 :: u13 10 :: u13 11 :: u13 12 :: u13 13 :: u13 14 :: u13 15 :: u13 16 :: u13 17 :: u13 18 :: u13 19 :: u13 20 :: u13 21 :: List.replicate 2 un).toArray, []⟩) (by kernel_rfl) ?_
    refine wp_cond_false (by kernel_rfl) ?_
    refine wp_exit ?_
    repeat first | refine then_exit ?_ | refine block_exit ?_ | refine block_exit_ne (by decide) ?_
    have h21 : HA w [(q10, 116, ul (addD a b)), (q7, 32, rl 0), (q4, 32, rl b), (q1, 32, rl a)] w19 := by have h9 := h20; rw [fill_end _ (addD_len a b)] at h9; exact h9
    refine then_at (F := ⟨(rarr a :: rarr b :: pt q1 :: pt q4 :: pt q7 :: pt q10 :: iN .i64 16 :: iN .i64 16 :: .bool false :: u13 9 :: u13 10 :: u13 11 :: u13 12 :: u13 13 :: u13 14 :: u13 15 :: u13 16 :: u13 17 :: u13 18 :: u13 19 :: u13 20 :: u13 21 :: List.replicate 2 un).toArray, []⟩) (by kernel_rfl) ?_
    refine wp_seq ?_
    -- region 6
    refine wl_region ?_
    refine wl_load h21 0 rfl (by kernel_rfl) (by kernel_rfl) Tryd.underlying116 rfl (by rw [ul_size, addD_len]; exact info116) ?_
    refine wl_call (v := rarr (num 65536 (addD a b) % P)) h21 (by kernel_rfl) enter96 #[.agg (ul (addD a b))] (by kernel_rfl) (reduced_any _ (addD_len a b) (addD_bound a b) w19) ?_
    intro w22 h23
    refine wl_fill (c' := rl (num 65536 (addD a b) % P)) h23 1 rfl (by kernel_rfl) (by kernel_rfl) (by kernel_rfl) (rl_sz _ _) (info_rl _) (one_rl _) ?_
    intro w24 (h25 : HA w [(q10, 116, ul (addD a b)), (q7, 32, rl (num 65536 (addD a b) % P)), (q4, 32, rl b), (q1, 32, rl a)] w24)
    refine wl_nil ?_
    refine then_at (F := ⟨(rarr a :: rarr b :: pt q1 :: pt q4 :: pt q7 :: pt q10 :: iN .i64 16 :: iN .i64 16 :: .bool false :: u13 9 :: u13 10 :: u13 11 :: u13 12 :: u13 13 :: u13 14 :: u13 15 :: u13 16 :: u13 17 :: u13 18 :: u13 19 :: u13 20 :: u13 21 :: .agg (ul (addD a b)) :: rarr (num 65536 (addD a b) % P) :: List.replicate 0 un).toArray, []⟩) (by kernel_rfl) ?_
    refine wp_ret ?_
    repeat first | refine then_ret ?_ | refine block_ret ?_
    exact bodyPost_ret (v := rarr (num 65536 (addD a b) % P)) (res_cell (p := 4) (by kernel_rfl) (by kernel_rfl) (h25.get 1 rfl) Tryd.underlying32 rfl (info_rl _)) rfl ⟨by rw [addD_num a b ha hb]; rfl, h25.old⟩

set_option linter.unusedVariables false in
set_option maxRecDepth 100000 in
set_option maxHeartbeats 2000000 in
theorem rneg_nil (a : Nat) (ha : a < P) (h0 : a = 0) (w : World) : Calls Tryd.prog 60 #[rarr a] w fun e w' => e = .returned (rarr (negP a)) ∧ Below w.heap.size w w' := by
  have H0 := HA.start w
  go_enter Tryd.func60, Tryd.ntmps60
  refine wp_seq ?_
  -- region 0
  refine wl_region ?_
  refine wl_make H0 32 (by kernel_rfl) (run_box32 (c := rl a) (by kernel_rfl)) ?_
  intro q1 w2 h3
  refine wl_make h3 32 (by kernel_rfl) run_alloc32 ?_
  intro q4 w5 h6
  refine wl_nil ?_
  refine then_at (F := ⟨(rarr a :: pt q1 :: pt q4 :: List.replicate 7 un).toArray, []⟩) (by kernel_rfl) ?_
  refine wp_seq ?_
  refine wp_seq ?_
  -- region 1
  refine wl_region ?_
  refine wl_load h6 1 rfl (by kernel_rfl) (by kernel_rfl) Tryd.underlying32 rfl (info_rl _) ?_
  refine wl_val (rarr 0) (by kernel_rfl) run_build0 ?_
  refine wl_val (.bool true) (by kernel_rfl) (run_eq32 a 0 (Nat.lt_trans ha (by decide)) (by decide) (by kernel_rfl) (by kernel_rfl) true (decide_eq_true h0)) ?_
  refine wl_nil ?_
  refine then_at (F := ⟨(rarr a :: pt q1 :: pt q4 :: rarr a :: rarr 0 :: .bool true :: List.replicate 4 un).toArray, []⟩) (by kernel_rfl) ?_
  refine wp_cond_true (by kernel_rfl) ?_
  refine wp_seq ?_
  -- region 2
  refine wl_region ?_
  refine wl_load h6 1 rfl (by kernel_rfl) (by kernel_rfl) Tryd.underlying32 rfl (info_rl _) ?_
  refine wl_fill (c' := rl a) h6 0 rfl (by kernel_rfl) (by kernel_rfl) (by kernel_rfl) (rl_sz _ _) (info_rl _) (one_rl _) ?_
  intro w7 (h8 : HA w [(q4, 32, rl a), (q1, 32, rl a)] w7)
  refine wl_nil ?_
  refine then_at (F := ⟨(rarr a :: pt q1 :: pt q4 :: rarr a :: rarr 0 :: .bool true :: rarr a :: List.replicate 3 un).toArray, []⟩) (by kernel_rfl) ?_
  refine wp_ret ?_
  repeat first | refine then_ret ?_ | refine block_ret ?_
  exact bodyPost_ret (v := rarr a) (res_cell (p := 2) (by kernel_rfl) (by kernel_rfl) (h8.get 0 rfl) Tryd.underlying32 rfl (info_rl _)) rfl ⟨by rw [h0]; rfl, h8.old⟩

set_option linter.unusedVariables false in
set_option maxRecDepth 100000 in
set_option maxHeartbeats 2000000 in
theorem rneg_not (a : Nat) (ha : a < P) (h0 : a ≠ 0) (w : World) : Calls Tryd.prog 60 #[rarr a] w fun e w' => e = .returned (rarr (negP a)) ∧ Below w.heap.size w w' := by
  have H0 := HA.start w
  go_enter Tryd.func60, Tryd.ntmps60
  refine wp_seq ?_
  -- region 0
  refine wl_region ?_
  refine wl_make H0 32 (by kernel_rfl) (run_box32 (c := rl a) (by kernel_rfl)) ?_
  intro q1 w2 h3
  refine wl_make h3 32 (by kernel_rfl) run_alloc32 ?_
  intro q4 w5 h6
  refine wl_nil ?_
  refine then_at (F := ⟨(rarr a :: pt q1 :: pt q4 :: List.replicate 7 un).toArray, []⟩) (by kernel_rfl) ?_
  refine wp_seq ?_
  refine wp_seq ?_
  -- region 1
  refine wl_region ?_
  refine wl_load h6 1 rfl (by kernel_rfl) (by kernel_rfl) Tryd.underlying32 rfl (info_rl _) ?_
  refine wl_val (rarr 0) (by kernel_rfl) run_build0 ?_
  refine wl_val (.bool false) (by kernel_rfl) (run_eq32 a 0 (Nat.lt_trans ha (by decide)) (by decide) (by kernel_rfl) (by kernel_rfl) false (decide_eq_false h0)) ?_
  refine wl_nil ?_
  refine then_at (F := ⟨(rarr a :: pt q1 :: pt q4 :: rarr a :: rarr 0 :: .bool false :: List.replicate 4 un).toArray, []⟩) (by kernel_rfl) ?_
  refine wp_cond_false (by kernel_rfl) ?_
  refine wp_skip ?_
  refine then_at (F := ⟨(rarr a :: pt q1 :: pt q4 :: rarr a :: rarr 0 :: .bool false :: List.replicate 4 un).toArray, []⟩) (by kernel_rfl) ?_
  refine wp_seq ?_
  -- region 3
  refine wp_region_ghost (fun _ : Nat → Nat => (⟨(rarr a :: pt q1 :: pt q4 :: rarr a :: rarr 0 :: .bool false :: un :: rarr P :: rarr a :: rarr (P - a) :: List.replicate 0 un).toArray, []⟩ : Act)) (GF w [(q4, 32, rl 0), (q1, 32, rl a)] 3 2 0 q4 32 (rl (P - a))) [rarr P, rarr a, rarr (P - a), undef] (by kernel_rfl) (by kernel_rfl) (by kernel_rfl) (by kernel_rfl) (fun _ _ _ _ h => h) (fun d hd => GF.start h6.drew (hd 3 (by decide))) ?_ ?_
  · refine AllGhost.cons (gf_call (v := rarr P) (by decide) (fun _ => by kernel_rfl) (fun _ => by kernel_rfl) enter85 #[] (fun _ => by kernel_rfl) (fun w' => rprime_any w')) ?_
    refine AllGhost.cons (gf_load2 1 (by decide) rfl (by decide) (fun _ => by kernel_rfl) (fun _ => by kernel_rfl) (fun _ => by kernel_rfl) Tryd.underlying32 rfl (info_rl _)) ?_
    refine AllGhost.cons (gf_call (v := rarr (P - a)) (by decide) (fun _ => by kernel_rfl) (fun _ => by kernel_rfl) enter93 #[rarr P, rarr a] (fun _ => by kernel_rfl) (fun w' => rminus_any P a (by decide) (Nat.le_of_lt ha) w')) ?_
    refine AllGhost.cons (gf_fill rfl (rl_sz _ _) (fun _ => by kernel_rfl) (fun _ => by kernel_rfl) (fun _ => by kernel_rfl) (fun _ => by kernel_rfl) (info_rl _) (one_rl _) (by decide) (by kernel_rfl)) ?_
    exact AllGhost.nil
  intro _ w7 g8
  have h9 : HA w [(q4, 32, rl (P - a)), (q1, 32, rl a)] w7 := g8.held
  clear g8
  refine then_at (F := ⟨(rarr a :: pt q1 :: pt q4 :: rarr a :: rarr 0 :: .bool false :: un :: rarr P :: rarr a :: rarr (P - a) :: List.replicate 0 un).toArray, []⟩) (by kernel_rfl) ?_
  refine wp_ret ?_
  repeat first | refine then_ret ?_ | refine block_ret ?_
  exact bodyPost_ret (v := rarr (P - a)) (res_cell (p := 2) (by kernel_rfl) (by kernel_rfl) (h9.get 0 rfl) Tryd.underlying32 rfl (info_rl _)) rfl ⟨by rw [neg16 a ha h0], h9.old⟩

theorem rneg_any (a : Nat) (ha : a < P) (w : World) : Calls Tryd.prog 60 #[rarr a] w fun e w' => e = .returned (rarr (negP a)) ∧ Below w.heap.size w w' := by
  by_cases h : a = 0
  · exact rneg_nil a ha h w
  · exact rneg_not a ha h w

set_option linter.unusedVariables false in
set_option maxRecDepth 100000 in
set_option maxHeartbeats 2000000 in
theorem rsub_any (a b : Nat) (ha : a < P) (hb : b < P) (w : World) : Calls Tryd.prog 99 #[rarr a, rarr b] w fun e w' => e = .returned (rarr (subP a b)) ∧ Below w.heap.size w w' := by
  have H0 := HA.start w
  go_enter Tryd.func99, Tryd.ntmps99
  refine wp_seq ?_
  -- region 0
  refine wl_region ?_
  refine wl_make H0 32 (by kernel_rfl) (run_box32 (c := rl a) (by kernel_rfl)) ?_
  intro q1 w2 h3
  refine wl_make h3 32 (by kernel_rfl) (run_box32 (c := rl b) (by kernel_rfl)) ?_
  intro q4 w5 h6
  refine wl_make h6 32 (by kernel_rfl) run_alloc32 ?_
  intro q7 w8 h9
  refine wl_nil ?_
  refine then_at (F := ⟨(rarr a :: rarr b :: pt q1 :: pt q4 :: pt q7 :: List.replicate 4 un).toArray, []⟩) (by kernel_rfl) ?_
  refine wp_seq ?_
  -- region 1
  refine wp_region_ghost (fun _ : Nat → Nat => (⟨(rarr a :: rarr b :: pt q1 :: pt q4 :: pt q7 :: rarr a :: rarr b :: rarr (negP b) :: rarr (addP a (negP b)) :: List.replicate 0 un).toArray, []⟩ : Act)) (GF w [(q7, 32, rl 0), (q4, 32, rl b), (q1, 32, rl a)] 4 3 0 q7 32 (rl (addP a (negP b)))) [rarr a, rarr b, rarr (negP b), rarr (addP a (negP b)), undef] (by kernel_rfl) (by kernel_rfl) (by kernel_rfl) (by kernel_rfl) (fun _ _ _ _ h => h) (fun d hd => GF.start h9.drew (hd 4 (by decide))) ?_ ?_
  · refine AllGhost.cons (gf_load2 2 (by decide) rfl (by decide) (fun _ => by kernel_rfl) (fun _ => by kernel_rfl) (fun _ => by kernel_rfl) Tryd.underlying32 rfl (info_rl _)) ?_
    refine AllGhost.cons (gf_load2 1 (by decide) rfl (by decide) (fun _ => by kernel_rfl) (fun _ => by kernel_rfl) (fun _ => by kernel_rfl) Tryd.underlying32 rfl (info_rl _)) ?_
    refine AllGhost.cons (gf_call (v := rarr (negP b)) (by decide) (fun _ => by kernel_rfl) (fun _ => by kernel_rfl) enter60 #[rarr b] (fun _ => by kernel_rfl) (fun w' => rneg_any b hb w')) ?_
    refine AllGhost.cons (gf_call (v := rarr (addP a (negP b))) (by decide) (fun _ => by kernel_rfl) (fun _ => by kernel_rfl) enter98 #[rarr a, rarr (negP b)] (fun _ => by kernel_rfl) (fun w' => radd_any a (negP b) (Nat.lt_trans ha (by decide)) (Nat.lt_trans (negP_lt b) (by decide)) w')) ?_
    refine AllGhost.cons (gf_fill rfl (rl_sz _ _) (fun _ => by kernel_rfl) (fun _ => by kernel_rfl) (fun _ => by kernel_rfl) (fun _ => by kernel_rfl) (info_rl _) (one_rl _) (by decide) (by kernel_rfl)) ?_
    exact AllGhost.nil
  intro _ w10 g11
  have h12 : HA w [(q7, 32, rl (addP a (negP b))), (q4, 32, rl b), (q1, 32, rl a)] w10 := g11.held
  clear g11
  refine then_at (F := ⟨(rarr a :: rarr b :: pt q1 :: pt q4 :: pt q7 :: rarr a :: rarr b :: rarr (negP b) :: rarr (addP a (negP b)) :: List.replicate 0 un).toArray, []⟩) (by kernel_rfl) ?_
  refine wp_ret ?_
  repeat first | refine then_ret ?_ | refine block_ret ?_
  exact bodyPost_ret (v := rarr (addP a (negP b))) (res_cell (p := 4) (by kernel_rfl) (by kernel_rfl) (h12.get 0 rfl) Tryd.underlying32 rfl (info_rl _)) rfl ⟨by rw [sub16 a b hb], h12.old⟩
end Go.Proofs.YtpaendmdcdeemaaDoor

namespace Go.Proofs.YtpaendmdcdeemaaDoor
open Go.RowKit Num

/-- one place grows -/
def bump (l : List Nat) (j x : Nat) : List Nat := l.set j (dg l j + x)
theorem bump_len (l : List Nat) (j x : Nat) : (bump l j x).length = l.length := List.length_set ..
theorem bump_num (l : List Nat) (j x : Nat) (h : j < l.length) : num 65536 (bump l j x) = num 65536 l + x * 65536 ^ j := by
  unfold bump
  rw [dg_get l j h]
  exact num_more 65536 l j x h
theorem bump_dg (l : List Nat) (j x m : Nat) (h : j < l.length) : dg (bump l j x) m = if m = j then dg l j + x else dg l m := by
  unfold bump dg
  rw [List.getD_eq_getElem?_getD, List.getD_eq_getElem?_getD, List.getD_eq_getElem?_getD]
  by_cases hm : m = j
  · subst hm
    rw [if_pos rfl, List.getElem?_set_self h]
    rfl
  · rw [if_neg hm, List.getElem?_set_ne (Ne.symm hm)]
/-- digit times digit -/
def dd (a b i k : Nat) : Nat := a / 65536 ^ i % 65536 * (b / 65536 ^ k % 65536)
theorem dd_le (a b i k : Nat) : dd a b i k ≤ 4294836225 := by
  have h1 : a / 65536 ^ i % 65536 ≤ 65535 := by omega
  have h2 : b / 65536 ^ k % 65536 ≤ 65535 := by omega
  exact Nat.mul_le_mul h1 h2
def rowL (a b : Nat) (l : List Nat) (i : Nat) : Nat → List Nat
  | 0 => l
  | k + 1 => bump (rowL a b l i k) (i + k) (dd a b i k)
theorem rowL_len (a b : Nat) (l : List Nat) (i : Nat) : ∀ k, (rowL a b l i k).length = l.length
  | 0 => rfl
  | k + 1 => by rw [rowL, bump_len, rowL_len a b l i k]
theorem rowL_num (a b : Nat) (l : List Nat) (i : Nat) (hl : l.length = 32) (hi : i < 16) : ∀ k, k ≤ 16 → num 65536 (rowL a b l i k) = num 65536 l + a / 65536 ^ i % 65536 * 65536 ^ i * (b % 65536 ^ k)
  | 0, _ => by rw [rowL, Nat.pow_zero, Nat.mod_one, Nat.mul_zero, Nat.add_zero]
  | k + 1, hk => by
    rw [rowL, bump_num _ _ _ (by rw [rowL_len, hl]; omega), rowL_num a b l i hl hi k (by omega), mod_step 65536 b k]
    unfold dd
    rw [Nat.pow_add, Nat.mul_add, Nat.add_assoc]
    congr 2
    generalize a / 65536 ^ i % 65536 = x
    generalize b / 65536 ^ k % 65536 = y
    rw [Nat.mul_assoc, Nat.mul_assoc, Nat.mul_left_comm y]
theorem rowL_bound (a b : Nat) (l : List Nat) (i : Nat) (hl : l.length = 32) (hi : i < 16) : ∀ k, k ≤ 16 → (∀ m, i + k ≤ m → dg (rowL a b l i k) m = dg l m) ∧ ∀ m, dg (rowL a b l i k) m ≤ dg l m + 4294836225
  | 0, _ => ⟨fun _ _ => rfl, fun m => Nat.le_add_right _ _⟩
  | k + 1, hk => by
    obtain ⟨h1, h2⟩ := rowL_bound a b l i hl hi k (by omega)
    have hj : i + k < (rowL a b l i k).length := by rw [rowL_len, hl]; omega
    refine ⟨fun m hm => ?_, fun m => ?_⟩
    · rw [rowL, bump_dg _ _ _ _ hj, if_neg (by omega), h1 m (by omega)]
    · rw [rowL, bump_dg _ _ _ _ hj]
      split
      · rename_i hm
        subst hm
        rw [h1 _ (Nat.le_refl _)]
        have := dd_le a b i k
        omega
      · exact h2 m
def wide (a b : Nat) : Nat → List Nat
  | 0 => List.replicate 32 0
  | i + 1 => rowL a b (wide a b i) i 16
theorem wide_len (a b : Nat) : ∀ i, (wide a b i).length = 32
  | 0 => rfl
  | i + 1 => by rw [wide, rowL_len, wide_len a b i]
theorem wide_num (a b : Nat) (hb : b < 65536 ^ 16) : ∀ i, i ≤ 16 → num 65536 (wide a b i) = a % 65536 ^ i * b
  | 0, _ => by rw [wide, num_zeros, Nat.pow_zero, Nat.mod_one, Nat.zero_mul]
  | i + 1, hi => by
    rw [wide, rowL_num a b _ i (wide_len a b i) (by omega) 16 (Nat.le_refl _), wide_num a b hb i (by omega), Nat.mod_eq_of_lt hb, mod_step 65536 a i, Nat.add_mul]
theorem wide_bound (a b : Nat) : ∀ i, i ≤ 16 → ∀ m, dg (wide a b i) m ≤ i * 4294836225
  | 0, _, m => by
    unfold dg wide
    rw [List.getD_eq_getElem?_getD]
    by_cases hm : m < 32
    · rw [List.getElem?_replicate, if_pos hm]; exact Nat.zero_le _
    · rw [List.getElem?_replicate, if_neg hm]; exact Nat.zero_le _
  | i + 1, hi, m => by
    have h1 := (rowL_bound a b (wide a b i) i (wide_len a b i) (by omega) 16 (Nat.le_refl _)).2 m
    have h2 := wide_bound a b i (by omega) m
    rw [wide]
    omega
theorem row_bound (a b i k : Nat) (hi : i < 16) (hk : k ≤ 16) (m : Nat) : dg (rowL a b (wide a b i) i k) m < 73014444032 := by
  have h1 := (rowL_bound a b (wide a b i) i (wide_len a b i) hi k hk).2 m
  have h2 := wide_bound a b i (by omega) m
  omega
/-- both halves together -/
def halves (W : List Nat) : List Nat := List.zipWith (fun x y => x + 38 * y) (W.take 16) (W.drop 16)
theorem halves_len (W : List Nat) (hW : W.length = 32) : (halves W).length = 16 := by unfold halves; rw [List.length_zipWith, List.length_take, List.length_drop, hW]; rfl
theorem halves_dg (W : List Nat) (hW : W.length = 32) (k : Nat) (hk : k < 16) : dg (halves W) k = dg W k + 38 * dg W (k + 16) := by
  rw [dg_get _ k (by rw [halves_len W hW]; exact hk), dg_get W k (by omega), dg_get W (k + 16) (by omega)]
  unfold halves
  rw [List.getElem_zipWith, List.getElem_take, List.getElem_drop]
  simp only [Nat.add_comm 16 k]
theorem num_zip38 : ∀ (l m : List Nat), l.length = m.length → num 65536 (List.zipWith (fun x y => x + 38 * y) l m) = num 65536 l + 38 * num 65536 m
  | [], [], _ => rfl
  | x :: l, y :: m, h => by
    have := num_zip38 l m (by simpa using h)
    simp only [List.zipWith_cons_cons, num]
    rw [this, Nat.mul_add]
    omega
theorem halves_mod (W : List Nat) (hW : W.length = 32) : num 65536 (halves W) % P = num 65536 W % P := by
  unfold halves
  rw [num_zip38 _ _ (by rw [List.length_take, List.length_drop, hW]; rfl)]
  conv => rhs; rw [num_cut 65536 W 16 (by omega)]
  have e : (65536 : Nat) ^ 16 % P = 38 := by decide
  rw [Nat.add_mod, Nat.mul_mod 38, Nat.add_mod (num 65536 (W.take 16)) (65536 ^ 16 * _), Nat.mul_mod (65536 ^ 16), e]
  rfl
theorem halves_bound (a b : Nat) : ∀ x ∈ halves (wide a b 16), x < 4398046511104 := fun x hx => by
  obtain ⟨k, hk, rfl⟩ := List.mem_iff_getElem.1 hx
  rw [halves_len _ (wide_len a b 16)] at hk
  rw [← dg_get _ k (by rw [halves_len _ (wide_len a b 16)]; exact hk), halves_dg _ (wide_len a b 16) k hk]
  have h1 := wide_bound a b 16 (Nat.le_refl _) k
  have h2 := wide_bound a b 16 (Nat.le_refl _) (k + 16)
  omega
theorem mul_num (a b : Nat) (ha : a < 65536 ^ 16) (hb : b < 65536 ^ 16) : num 65536 (halves (wide a b 16)) % P = mulP a b := by
  rw [halves_mod _ (wide_len a b 16), wide_num a b hb 16 (Nat.le_refl _), Nat.mod_eq_of_lt ha]
  rfl
theorem info132 : (Tryd.prog.info? 132).map (·.size) = some 32 := by kernel_rfl
theorem run_alloc132 {ρ : Operand → Value} {w : World} {dst : Option Tmp} {ty : TypeId} {pos : String} {aft : Array Edge} {gd : Option (Nat × Bool)} :
    (execOp ρ ⟨dst, .alloc 132, ty, pos, aft, gd⟩).run Tryd.prog w = .ok (.value (.pointer (some ⟨w.heap.size, 0, none⟩))) (w.alloc (.cells (ul (List.replicate 32 0)) 132)) := by
  simp only [execOp]
  go_simp
  rfl
section
variable {ops : Array Oper} {Q : Exit → Act → World → Prop} {F : (Nat → Nat) → Act} {i i0 i1 j q : Nat} {dst : Option Tmp} {T ty : TypeId} {pos : String} {aft : Array Edge} {gd : Option (Nat × Bool)}
  {w0 : World} {L : List (Nat × TypeId × Array Value)} {t : TypeId} {c : Array Value}
/-- the cell that is read ahead of the put -/
theorem gf_cell {x : Operand} {v : Value} {e : Nat × TypeId × Array Value} (m : Nat) (hm : L[m]? = some e) (hi : i1 ≠ i0) (off : Nat) (hv : e.2.2[off]? = some v) (hg : ∀ w, (isAgg T).run Tryd.prog w = .ok false w)
    (hw : ∀ g, Region.wanted ⟨dst, .load T x, ty, pos, aft, gd⟩ (yielded ops (F g).tmps) = true) (hp : ∀ g, (F g).put dst v = F g) (hx : ∀ g, (F g).eval x = .pointer (some ⟨e.1, off, none⟩)) :
    OpGhost Tryd.prog .any ops Q (GF w0 L i0 i1 j q t c) F i1 ⟨dst, .load T x, ty, pos, aft, gd⟩ := fun g d w h hdi _ => by
  rw [if_pos (hw g)]
  unfold Oper.wp
  have h0 : d i0 = false := by
    cases h0 : d i0 with
    | false => rfl
    | true => rw [h.seen h0] at hdi; cases hdi
  have hH := h.held
  rw [h0, if_neg (by decide)] at hH
  rw [run_load1 hg (hx g) (((hH.get m hm).cell off).trans hv)]
  exact ⟨g i1, by rw [up_self]; exact hp g, by rw [up_self]; exact h.keep hi (Below.refl _ w)⟩
theorem gf_cell2 {x : Operand} {v : Value} {e : Nat × TypeId × Array Value} (m : Nat) (hjm : j ≠ m) (hm : L[m]? = some e) (hi : i ≠ i0) (off : Nat) (hv : e.2.2[off]? = some v) (hg : ∀ w, (isAgg T).run Tryd.prog w = .ok false w)
    (hw : ∀ g, Region.wanted ⟨dst, .load T x, ty, pos, aft, gd⟩ (yielded ops (F g).tmps) = true) (hp : ∀ g, (F g).put dst v = F g) (hx : ∀ g, (F g).eval x = .pointer (some ⟨e.1, off, none⟩)) :
    OpGhost Tryd.prog .any ops Q (GF w0 L i0 i1 j q t c) F i ⟨dst, .load T x, ty, pos, aft, gd⟩ :=
  OpGhost.take (v := fun _ => v) hw hp (fun g d w h _ => by
    have hB : Blk w e.1 e.2.1 e.2.2 := by
      have hH := h.held
      split at hH
      · exact hH.get m (by rw [List.getElem?_set_ne hjm]; exact hm)
      · exact hH.get m hm
    exact ⟨run_load1 hg (hx g) ((hB.cell off).trans hv), h.keep hi (Below.refl _ w)⟩)
theorem gf_put {x y : Operand} {k : IntKind} {z : Int} {c0 : Array Value} {off : Nat} (hL : L[j]? = some (q, t, c0)) (hoff : off < c0.size) (hc : c0.setIfInBounds off (.int k z) = c) (hs : ∀ w, (sizeOf T).run Tryd.prog w = .ok 1 w)
    (hw : ∀ g, Region.wanted ⟨dst, .store T x y, ty, pos, aft, gd⟩ (yielded ops (F g).tmps) = true) (hp : ∀ g, (F g).put dst undef = F g) (hx : ∀ g, (F g).eval x = .pointer (some ⟨q, off, none⟩)) (hy : ∀ g, (F g).eval y = .int k z) (hi : i1 ≠ i0)
    (he : (aft.any fun e => Region.binds .any e && e.on == i1) = true) :
    OpGhost Tryd.prog .any ops Q (GF w0 L i0 i1 j q t c) F i0 ⟨dst, .store T x y, ty, pos, aft, gd⟩ :=
  OpGhost.skips (W := fun _ w => w.setCell ⟨q, off, none⟩ (.int k z)) hw hp (fun g d w h hd haft => by
    obtain ⟨m, hm, h3⟩ := Array.any_eq_true.1 he
    rw [Bool.and_eq_true, beq_iff_eq] at h3
    have ha : d i1 = true := by rw [← h3.2]; exact haft _ (Array.getElem_mem hm) h3.1
    have hH := h.held
    rw [hd, if_neg (by decide)] at hH
    refine ⟨run_store1 hs (hx g) (hy g) (by rw [(hH.get j hL).cell off]; simp [hoff]) ((hH.get j hL).free off hoff), ?_, fun _ => by rw [up_ne _ _ hi]; exact ha⟩
    rw [up_at, if_pos rfl]
    have := hH.put j hL off (.int k z)
    rw [hc] at this
    exact this)
end
end Go.Proofs.YtpaendmdcdeemaaDoor

namespace Go.Proofs.YtpaendmdcdeemaaDoor
open Go.RowKit Num

set_option linter.unusedVariables false in
set_option maxRecDepth 100000 in
set_option maxHeartbeats 2000000 in
theorem rmul_any (a b : Nat) (ha : a < 65536 ^ 16) (hb : b < 65536 ^ 16) (w : World) : Calls Tryd.prog 90 #[rarr a, rarr b] w fun e w' => e = .returned (rarr (mulP a b)) ∧ Below w.heap.size w w' := by
  have H0 := HA.start w
  go_enter Tryd.func90, Tryd.ntmps90
  refine wp_seq ?_
  -- region 0
  refine wl_region ?_
  refine wl_make H0 32 (by kernel_rfl) (run_box32 (c := rl a) (by kernel_rfl)) ?_
  intro q1 w2 h3
  refine wl_make h3 32 (by kernel_rfl) (run_box32 (c := rl b) (by kernel_rfl)) ?_
  intro q4 w5 h6
  refine wl_make h6 32 (by kernel_rfl) run_alloc32 ?_
  intro q7 w8 h9
  refine wl_nil ?_
  refine then_at (F := ⟨(rarr a :: rarr b :: pt q1 :: pt q4 :: pt q7 :: List.replicate 49 un).toArray, []⟩) (by kernel_rfl) ?_
  refine wp_seq ?_
  -- region 1
  refine wl_region ?_
  refine wl_make h9 132 (by kernel_rfl) run_alloc132 ?_
  intro q10 w11 h12
  refine wl_nil ?_
  refine then_at (F := ⟨(rarr a :: rarr b :: pt q1 :: pt q4 :: pt q7 :: pt q10 :: List.replicate 48 un).toArray, []⟩) (by kernel_rfl) ?_
  refine wp_seq ?_
  refine wp_seq ?_
  -- region 2
  refine wl_region ?_
  refine wl_val (iN .i64 0) (by kernel_rfl) (by kernel_rfl) ?_
  refine wl_nil ?_
  refine then_at (F := ⟨(rarr a :: rarr b :: pt q1 :: pt q4 :: pt q7 :: pt q10 :: iN .i64 0 :: List.replicate 47 un).toArray, []⟩) (by kernel_rfl) ?_
  refine wp_block ?_
  refine wp_count (fun i A w' => ∃ u13 : Nat → Value, A = ⟨(rarr a :: rarr b :: pt q1 :: pt q4 :: pt q7 :: pt q10 :: iN .i64 i :: u13 7 :: un :: un :: u13 10 :: u13 11 :: u13 12 :: u13 13 :: u13 14 :: u13 15 :: u13 16 :: u13 17 :: u13 18 :: u13 19 :: u13 20 :: u13 21 :: u13 22 :: u13 23 :: u13 24 :: u13 25 :: u13 26 :: u13 27 :: u13 28 :: u13 29 :: u13 30 :: u13 31 :: u13 32 :: u13 33 :: u13 34 :: u13 35 :: u13 36 :: List.replicate 17 un).toArray, []⟩ ∧ HA w [(q10, 132, ul (wide a b i)), (q7, 32, rl 0), (q4, 32, rl b), (q1, 32, rl a)] w') 16 ?_ ?_ ?_
  · exact ⟨fun ii => (([(7, undef), (10, undef), (11, undef), (12, undef), (13, undef), (14, undef), (15, undef), (16, undef), (17, undef), (18, undef), (19, undef), (20, undef), (21, undef), (22, undef), (23, undef), (24, undef), (25, undef), (26, undef), (27, undef), (28, undef), (29, undef), (30, undef), (31, undef), (32, undef), (33, undef), (34, undef), (35, undef), (36, undef)] : List (Nat × Value)).find? (·.1 == ii)).elim undef (·.2), by kernel_rfl, h12⟩
  · rintro i hi _ w14 ⟨u13, rfl, h15⟩
    refine wp_seq ?_
    refine wp_seq ?_
    -- region 3
    refine wl_region ?_
    refine wl_val (iN .i64 i) (by kernel_rfl) (by kernel_rfl) ?_
    refine wl_val (.bool true) (by kernel_rfl) (run_lss (k := .i64) (a := i) (b := 16) (by kernel_rfl) (by kernel_rfl) true (decide_eq_true hi)) ?_
    refine wl_nil ?_
    refine then_at (F := ⟨(rarr a :: rarr b :: pt q1 :: pt q4 :: pt q7 :: pt q10 :: iN .i64 i :: u13 7 :: un :: un :: iN .i64 i :: .bool true :: u13 12 :: u13 13 :: u13 14 :: u13 15 :: u13 16 :: u13 17 :: u13 18 :: u13 19 :: u13 20 :: u13 21 :: u13 22 :: u13 23 :: u13 24 :: u13 25 :: u13 26 :: u13 27 :: u13 28 :: u13 29 :: u13 30 :: u13 31 :: u13 32 :: u13 33 :: u13 34 :: u13 35 :: u13 36 :: List.replicate 17 un).toArray, []⟩) (by kernel_rfl) ?_
    refine wp_cond_true (by kernel_rfl) ?_
    refine wp_skip ?_
    refine then_at (F := ⟨(rarr a :: rarr b :: pt q1 :: pt q4 :: pt q7 :: pt q10 :: iN .i64 i :: u13 7 :: un :: un :: iN .i64 i :: .bool true :: u13 12 :: u13 13 :: u13 14 :: u13 15 :: u13 16 :: u13 17 :: u13 18 :: u13 19 :: u13 20 :: u13 21 :: u13 22 :: u13 23 :: u13 24 :: u13 25 :: u13 26 :: u13 27 :: u13 28 :: u13 29 :: u13 30 :: u13 31 :: u13 32 :: u13 33 :: u13 34 :: u13 35 :: u13 36 :: List.replicate 17 un).toArray, []⟩) (by kernel_rfl) ?_
    refine wp_seq ?_
    refine wp_block ?_
    refine wp_seq ?_
    -- region 5
    refine wl_region ?_
    refine wl_val (iN .i64 0) (by kernel_rfl) (by kernel_rfl) ?_
    refine wl_nil ?_
    refine then_at (F := ⟨(rarr a :: rarr b :: pt q1 :: pt q4 :: pt q7 :: pt q10 :: iN .i64 i :: iN .i64 0 :: un :: un :: iN .i64 i :: .bool true :: u13 12 :: u13 13 :: u13 14 :: u13 15 :: u13 16 :: u13 17 :: u13 18 :: u13 19 :: u13 20 :: u13 21 :: u13 22 :: u13 23 :: u13 24 :: u13 25 :: u13 26 :: u13 27 :: u13 28 :: u13 29 :: u13 30 :: u13 31 :: u13 32 :: u13 33 :: u13 34 :: u13 35 :: u13 36 :: List.replicate 17 un).toArray, []⟩) (by kernel_rfl) ?_
    refine wp_block ?_
    refine wp_count (fun k A w' => ∃ u16 : Nat → Value, A = ⟨(rarr a :: rarr b :: pt q1 :: pt q4 :: pt q7 :: pt q10 :: iN .i64 i :: iN .i64 k :: un :: un :: iN .i64 i :: .bool true :: u13 12 :: u13 13 :: u16 14 :: u16 15 :: u16 16 :: u16 17 :: u16 18 :: u16 19 :: u16 20 :: u16 21 :: u16 22 :: u16 23 :: u16 24 :: u16 25 :: u16 26 :: u16 27 :: u16 28 :: u16 29 :: u16 30 :: u16 31 :: u16 32 :: u16 33 :: u16 34 :: u16 35 :: u16 36 :: List.replicate 17 un).toArray, []⟩ ∧ HA w [(q10, 132, ul (rowL a b (wide a b i) i k)), (q7, 32, rl 0), (q4, 32, rl b), (q1, 32, rl a)] w') 16 ?_ ?_ ?_
    · exact ⟨fun ii => (([(14, u13 14), (15, u13 15), (16, u13 16), (17, u13 17), (18, u13 18), (19, u13 19), (20, u13 20), (21, u13 21), (22, u13 22), (23, u13 23), (24, u13 24), (25, u13 25), (26, u13 26), (27, u13 27), (28, u13 28), (29, u13 29), (30, u13 30), (31, u13 31), (32, u13 32), (33, u13 33), (34, u13 34), (35, u13 35), (36, u13 36)] : List (Nat × Value)).find? (·.1 == ii)).elim undef (·.2), by kernel_rfl, h15⟩
    · rintro k hk _ w17 ⟨u16, rfl, h18⟩
      have hrb := row_bound a b i k hi (Nat.le_of_lt hk) (i + k)
      have hdd := dd_le a b i k
      refine wp_seq ?_
      refine wp_seq ?_
      -- region 6
      refine wl_region ?_
      refine wl_val (iN .i64 k) (by kernel_rfl) (by kernel_rfl) ?_
      refine wl_val (.bool true) (by kernel_rfl) (run_lss (k := .i64) (a := k) (b := 16) (by kernel_rfl) (by kernel_rfl) true (decide_eq_true hk)) ?_
      refine wl_nil ?_
      refine then_at (F := ⟨(rarr a :: rarr b :: pt q1 :: pt q4 :: pt q7 :: pt q10 :: iN .i64 i :: iN .i64 k :: un :: un :: iN .i64 i :: .bool true :: u13 12 :: u13 13 :: iN .i64 k :: .bool true :: u16 16 :: u16 17 :: u16 18 :: u16 19 :: u16 20 :: u16 21 :: u16 22 :: u16 23 :: u16 24 :: u16 25 :: u16 26 :: u16 27 :: u16 28 :: u16 29 :: u16 30 :: u16 31 :: u16 32 :: u16 33 :: u16 34 :: u16 35 :: u16 36 :: List.replicate 17 un).toArray, []⟩) (by kernel_rfl) ?_
      refine wp_cond_true (by kernel_rfl) ?_
      refine wp_skip ?_
      refine then_at (F := ⟨(rarr a :: rarr b :: pt q1 :: pt q4 :: pt q7 :: pt q10 :: iN .i64 i :: iN .i64 k :: un :: un :: iN .i64 i :: .bool true :: u13 12 :: u13 13 :: iN .i64 k :: .bool true :: u16 16 :: u16 17 :: u16 18 :: u16 19 :: u16 20 :: u16 21 :: u16 22 :: u16 23 :: u16 24 :: u16 25 :: u16 26 :: u16 27 :: u16 28 :: u16 29 :: u16 30 :: u16 31 :: u16 32 :: u16 33 :: u16 34 :: u16 35 :: u16 36 :: List.replicate 17 un).toArray, []⟩) (by kernel_rfl) ?_
      refine wp_seq ?_
      refine wp_block ?_
      -- region 8
      refine wp_region_ghost (fun _ : Nat → Nat => (⟨(rarr a :: rarr b :: pt q1 :: pt q4 :: pt q7 :: pt q10 :: iN .i64 i :: iN .i64 k :: un :: un :: iN .i64 i :: .bool true :: u13 12 :: u13 13 :: iN .i64 k :: .bool true :: u16 16 :: u16 17 :: iN .i64 i :: iN .i64 k :: iN .i64 (i + k) :: iN .i64 i :: iN .i64 k :: iN .i64 (i + k) :: .pointer (some ⟨q10, i + k, none⟩) :: iN .u64 (dg (rowL a b (wide a b i) i k) (i + k)) :: iN .i64 i :: .pointer (some ⟨q1, i, none⟩) :: iN .u32 (a / 65536 ^ i % 65536) :: iN .u64 (a / 65536 ^ i % 65536) :: iN .i64 k :: .pointer (some ⟨q4, k, none⟩) :: iN .u32 (b / 65536 ^ k % 65536) :: iN .u64 (b / 65536 ^ k % 65536) :: iN .u64 (dd a b i k) :: iN .u64 ((dg (rowL a b (wide a b i) i k) (i + k)) + (dd a b i k)) :: .pointer (some ⟨q10, i + k, none⟩) :: List.replicate 17 un).toArray, []⟩ : Act)) (GF w [(q10, 132, ul (rowL a b (wide a b i) i k)), (q7, 32, rl 0), (q4, 32, rl b), (q1, 32, rl a)] 19 7 0 q10 132 (ul (rowL a b (wide a b i) i (k + 1)))) [iN .i64 i, iN .i64 k, iN .i64 (i + k), iN .i64 i, iN .i64 k, iN .i64 (i + k), .pointer (some ⟨q10, i + k, none⟩), iN .u64 (dg (rowL a b (wide a b i) i k) (i + k)), iN .i64 i, .pointer (some ⟨q1, i, none⟩), iN .u32 (a / 65536 ^ i % 65536), iN .u64 (a / 65536 ^ i % 65536), iN .i64 k, .pointer (some ⟨q4, k, none⟩), iN .u32 (b / 65536 ^ k % 65536), iN .u64 (b / 65536 ^ k % 65536), iN .u64 (dd a b i k), iN .u64 ((dg (rowL a b (wide a b i) i k) (i + k)) + (dd a b i k)), .pointer (some ⟨q10, i + k, none⟩), undef] (by kernel_rfl) (by kernel_rfl) (by kernel_rfl) (by kernel_rfl) (fun _ _ _ _ h => h) (fun d hd => GF.start h18.drew (hd 19 (by decide))) ?_ ?_
      · refine AllGhost.cons (gf_plain (v := iN .i64 i) (by decide) (fun _ => by kernel_rfl) (fun _ => by kernel_rfl) (fun _ _ => (by kernel_rfl))) ?_
        refine AllGhost.cons (gf_plain (v := iN .i64 k) (by decide) (fun _ => by kernel_rfl) (fun _ => by kernel_rfl) (fun _ _ => (by kernel_rfl))) ?_
        refine AllGhost.cons (gf_plain (v := iN .i64 (i + k)) (by decide) (fun _ => by kernel_rfl) (fun _ => by kernel_rfl) (fun _ _ => (run_add (k := .i64) (a := i) (b := k) (by kernel_rfl) (by kernel_rfl) (by simp only [top]; omega)))) ?_
        refine AllGhost.cons (gf_plain (v := iN .i64 i) (by decide) (fun _ => by kernel_rfl) (fun _ => by kernel_rfl) (fun _ _ => (by kernel_rfl))) ?_
        refine AllGhost.cons (gf_plain (v := iN .i64 k) (by decide) (fun _ => by kernel_rfl) (fun _ => by kernel_rfl) (fun _ _ => (by kernel_rfl))) ?_
        refine AllGhost.cons (gf_plain (v := iN .i64 (i + k)) (by decide) (fun _ => by kernel_rfl) (fun _ => by kernel_rfl) (fun _ _ => (run_add (k := .i64) (a := i) (b := k) (by kernel_rfl) (by kernel_rfl) (by simp only [top]; omega)))) ?_
        refine AllGhost.cons (gf_plain (v := .pointer (some ⟨q10, i + k, none⟩)) (by decide) (fun _ => by kernel_rfl) (fun _ => by kernel_rfl) (fun _ _ => (run_addr_arr (q := q10) (a := i + k) Tryd.underlying132 (fun w => Tryd.sizeOf22 w) (by kernel_rfl) (by kernel_rfl) (by omega)))) ?_
        refine AllGhost.cons (gf_cell (v := iN .u64 (dg (rowL a b (wide a b i) i k) (i + k))) 0 rfl (by decide) (i + k) (ul_get _ (i + k) (by rw [rowL_len, wide_len]; omega)) (fun w => Tryd.isAgg22 w) (fun _ => by kernel_rfl) (fun _ => by kernel_rfl) (fun _ => by kernel_rfl)) ?_
        refine AllGhost.cons (gf_plain (v := iN .i64 i) (by decide) (fun _ => by kernel_rfl) (fun _ => by kernel_rfl) (fun _ _ => (by kernel_rfl))) ?_
        refine AllGhost.cons (gf_plain (v := .pointer (some ⟨q1, i, none⟩)) (by decide) (fun _ => by kernel_rfl) (fun _ => by kernel_rfl) (fun _ _ => (run_addr_arr (q := q1) (a := i) Tryd.underlying32 (fun w => Tryd.sizeOf30 w) (by kernel_rfl) (by kernel_rfl) (by omega)))) ?_
        refine AllGhost.cons (gf_cell2 (v := iN .u32 (a / 65536 ^ i % 65536)) 3 (by decide) rfl (by decide) i (rl_get a i (by omega)) (fun w => Tryd.isAgg30 w) (fun _ => by kernel_rfl) (fun _ => by kernel_rfl) (fun _ => by kernel_rfl)) ?_
        refine AllGhost.cons (gf_plain (v := iN .u64 (a / 65536 ^ i % 65536)) (by decide) (fun _ => by kernel_rfl) (fun _ => by kernel_rfl) (fun _ _ => (run_conv (k := .u32) (a := a / 65536 ^ i % 65536) .u64 Tryd.underlying30 Tryd.underlying22 (by kernel_rfl) (Nat.lt_trans (Nat.mod_lt _ (by decide)) (by decide))))) ?_
        refine AllGhost.cons (gf_plain (v := iN .i64 k) (by decide) (fun _ => by kernel_rfl) (fun _ => by kernel_rfl) (fun _ _ => (by kernel_rfl))) ?_
        refine AllGhost.cons (gf_plain (v := .pointer (some ⟨q4, k, none⟩)) (by decide) (fun _ => by kernel_rfl) (fun _ => by kernel_rfl) (fun _ _ => (run_addr_arr (q := q4) (a := k) Tryd.underlying32 (fun w => Tryd.sizeOf30 w) (by kernel_rfl) (by kernel_rfl) (by omega)))) ?_
        refine AllGhost.cons (gf_cell2 (v := iN .u32 (b / 65536 ^ k % 65536)) 2 (by decide) rfl (by decide) k (rl_get b k (by omega)) (fun w => Tryd.isAgg30 w) (fun _ => by kernel_rfl) (fun _ => by kernel_rfl) (fun _ => by kernel_rfl)) ?_
        refine AllGhost.cons (gf_plain (v := iN .u64 (b / 65536 ^ k % 65536)) (by decide) (fun _ => by kernel_rfl) (fun _ => by kernel_rfl) (fun _ _ => (run_conv (k := .u32) (a := b / 65536 ^ k % 65536) .u64 Tryd.underlying30 Tryd.underlying22 (by kernel_rfl) (Nat.lt_trans (Nat.mod_lt _ (by decide)) (by decide))))) ?_
        refine AllGhost.cons (gf_plain (v := iN .u64 (dd a b i k)) (by decide) (fun _ => by kernel_rfl) (fun _ => by kernel_rfl) (fun _ _ => (run_mul (k := .u64) (a := a / 65536 ^ i % 65536) (b := b / 65536 ^ k % 65536) (by kernel_rfl) (by kernel_rfl) (Nat.lt_of_le_of_lt (dd_le a b i k) (by decide))))) ?_
        refine AllGhost.cons (gf_plain (v := iN .u64 ((dg (rowL a b (wide a b i) i k) (i + k)) + (dd a b i k))) (by decide) (fun _ => by kernel_rfl) (fun _ => by kernel_rfl) (fun _ _ => (run_add (k := .u64) (a := dg (rowL a b (wide a b i) i k) (i + k)) (b := dd a b i k) (by kernel_rfl) (by kernel_rfl) (by simp only [top]; omega)))) ?_
        refine AllGhost.cons (gf_plain (v := .pointer (some ⟨q10, i + k, none⟩)) (by decide) (fun _ => by kernel_rfl) (fun _ => by kernel_rfl) (fun _ _ => (run_addr_arr (q := q10) (a := i + k) Tryd.underlying132 (fun w => Tryd.sizeOf22 w) (by kernel_rfl) (by kernel_rfl) (by omega)))) ?_
        refine AllGhost.cons (gf_put (k := .u64) (z := (((dg (rowL a b (wide a b i) i k) (i + k)) + (dd a b i k) : Nat) : Int)) (off := i + k) rfl (by rw [ul_size, rowL_len, wide_len]; omega) (ul_put (rowL a b (wide a b i) i k) (i + k) _) (fun w => Tryd.sizeOf22 w) (fun _ => by kernel_rfl) (fun _ => by kernel_rfl) (fun _ => by kernel_rfl) (fun _ => by kernel_rfl) (by decide) (by kernel_rfl)) ?_
        exact AllGhost.nil
      intro _ w19 g20
      have h21 : HA w [(q10, 132, ul (rowL a b (wide a b i) i (k + 1))), (q7, 32, rl 0), (q4, 32, rl b), (q1, 32, rl a)] w19 := g20.held
      clear g20
      refine block_normal ?_
      refine then_at (F := ⟨(rarr a :: rarr b :: pt q1 :: pt q4 :: pt q7 :: pt q10 :: iN .i64 i :: iN .i64 k :: un :: un :: iN .i64 i :: .bool true :: u13 12 :: u13 13 :: iN .i64 k :: .bool true :: u16 16 :: u16 17 :: iN .i64 i :: iN .i64 k :: iN .i64 (i + k) :: iN .i64 i :: iN .i64 k :: iN .i64 (i + k) :: .pointer (some ⟨q10, i + k, none⟩) :: iN .u64 (dg (rowL a b (wide a b i) i k) (i + k)) :: iN .i64 i :: .pointer (some ⟨q1, i, none⟩) :: iN .u32 (a / 65536 ^ i % 65536) :: iN .u64 (a / 65536 ^ i % 65536) :: iN .i64 k :: .pointer (some ⟨q4, k, none⟩) :: iN .u32 (b / 65536 ^ k % 65536) :: iN .u64 (b / 65536 ^ k % 65536) :: iN .u64 (dd a b i k) :: iN .u64 ((dg (rowL a b (wide a b i) i k) (i + k)) + (dd a b i k)) :: .pointer (some ⟨q10, i + k, none⟩) :: List.replicate 17 un).toArray, []⟩) (by kernel_rfl) ?_
      -- region 7
      refine wl_region ?_
      refine wl_val (iN .i64 k) (by kernel_rfl) (by kernel_rfl) ?_
      refine wl_val (iN .i64 (k + 1)) (by kernel_rfl) (run_add (k := .i64) (a := k) (b := 1) (by kernel_rfl) (by kernel_rfl) (by simp only [top]; omega)) ?_
      refine wl_val (iN .i64 (k + 1)) (by kernel_rfl) (by kernel_rfl) ?_
      refine wl_nil ?_
      exact then_I ⟨fun ii => (([(14, iN .i64 k), (15, .bool true), (16, iN .i64 k), (17, iN .i64 (k + 1)), (18, iN .i64 i), (19, iN .i64 k), (20, iN .i64 (i + k)), (21, iN .i64 i), (22, iN .i64 k), (23, iN .i64 (i + k)), (24, .pointer (some ⟨q10, i + k, none⟩)), (25, iN .u64 (dg (rowL a b (wide a b i) i k) (i + k))), (26, iN .i64 i), (27, .pointer (some ⟨q1, i, none⟩)), (28, iN .u32 (a / 65536 ^ i % 65536)), (29, iN .u64 (a / 65536 ^ i % 65536)), (30, iN .i64 k), (31, .pointer (some ⟨q4, k, none⟩)), (32, iN .u32 (b / 65536 ^ k % 65536)), (33, iN .u64 (b / 65536 ^ k % 65536)), (34, iN .u64 (dd a b i k)), (35, iN .u64 ((dg (rowL a b (wide a b i) i k) (i + k)) + (dd a b i k))), (36, .pointer (some ⟨q10, i + k, none⟩))] : List (Nat × Value)).find? (·.1 == ii)).elim undef (·.2), by kernel_rfl, h21⟩
    · rintro _ w22 ⟨u16, rfl, h23⟩
      refine wp_seq ?_
      refine wp_seq ?_
      -- region 6
      refine wl_region ?_
      refine wl_val (iN .i64 16) (by kernel_rfl) (by kernel_rfl) ?_
      refine wl_val (.bool false) (by kernel_rfl) (run_lss (k := .i64) (a := 16) (b := 16) (by kernel_rfl) (by kernel_rfl) false (by decide)) ?_
      refine wl_nil ?_
      refine then_at (F := ⟨(rarr a :: rarr b :: pt q1 :: pt q4 :: pt q7 :: pt q10 :: iN .i64 i :: iN .i64 16 :: un :: un :: iN .i64 i :: .bool true :: u13 12 :: u13 13 :: iN .i64 16 :: .bool false :: u16 16 :: u16 17 :: u16 18 :: u16 19 :: u16 20 :: u16 21 :: u16 22 :: u16 23 :: u16 24 :: u16 25 :: u16 26 :: u16 27 :: u16 28 :: u16 29 :: u16 30 :: u16 31 :: u16 32 :: u16 33 :: u16 34 :: u16 35 :: u16 36 :: List.replicate 17 un).toArray, []⟩) (by kernel_rfl) ?_
      refine wp_cond_false (by kernel_rfl) ?_
      refine wp_exit ?_
      repeat first | refine then_exit ?_ | refine block_exit ?_ | refine block_exit_ne (by decide) ?_
      have h24 : HA w [(q10, 132, ul (wide a b (i + 1))), (q7, 32, rl 0), (q4, 32, rl b), (q1, 32, rl a)] w22 := h23
      refine block_normal ?_
      refine then_at (F := ⟨(rarr a :: rarr b :: pt q1 :: pt q4 :: pt q7 :: pt q10 :: iN .i64 i :: iN .i64 16 :: un :: un :: iN .i64 i :: .bool true :: u13 12 :: u13 13 :: iN .i64 16 :: .bool false :: u16 16 :: u16 17 :: u16 18 :: u16 19 :: u16 20 :: u16 21 :: u16 22 :: u16 23 :: u16 24 :: u16 25 :: u16 26 :: u16 27 :: u16 28 :: u16 29 :: u16 30 :: u16 31 :: u16 32 :: u16 33 :: u16 34 :: u16 35 :: u16 36 :: List.replicate 17 un).toArray, []⟩) (by kernel_rfl) ?_
      -- region 4
      refine wl_region ?_
      refine wl_val (iN .i64 i) (by kernel_rfl) (by kernel_rfl) ?_
      refine wl_val (iN .i64 (i + 1)) (by kernel_rfl) (run_add (k := .i64) (a := i) (b := 1) (by kernel_rfl) (by kernel_rfl) (by simp only [top]; omega)) ?_
      refine wl_val (iN .i64 (i + 1)) (by kernel_rfl) (by kernel_rfl) ?_
      refine wl_nil ?_
      exact then_I ⟨fun ii => (([(7, iN .i64 16), (10, iN .i64 i), (11, .bool true), (12, iN .i64 i), (13, iN .i64 (i + 1)), (14, iN .i64 16), (15, .bool false), (16, u16 16), (17, u16 17), (18, u16 18), (19, u16 19), (20, u16 20), (21, u16 21), (22, u16 22), (23, u16 23), (24, u16 24), (25, u16 25), (26, u16 26), (27, u16 27), (28, u16 28), (29, u16 29), (30, u16 30), (31, u16 31), (32, u16 32), (33, u16 33), (34, u16 34), (35, u16 35), (36, u16 36)] : List (Nat × Value)).find? (·.1 == ii)).elim undef (·.2), by kernel_rfl, h24⟩
  · rintro _ w25 ⟨u13, rfl, h26⟩
    refine wp_seq ?_
    refine wp_seq ?_
    -- region 3
    refine wl_region ?_
    refine wl_val (iN .i64 16) (by kernel_rfl) (by kernel_rfl) ?_
    refine wl_val (.bool false) (by kernel_rfl) (run_lss (k := .i64) (a := 16) (b := 16) (by kernel_rfl) (by kernel_rfl) false (by decide)) ?_
    refine wl_nil ?_
    refine then_at (F := ⟨(rarr a :: rarr b :: pt q1 :: pt q4 :: pt q7 :: pt q10 :: iN .i64 16 :: u13 7 :: un :: un :: iN .i64 16 :: .bool false :: u13 12 :: u13 13 :: u13 14 :: u13 15 :: u13 16 :: u13 17 :: u13 18 :: u13 19 :: u13 20 :: u13 21 :: u13 22 :: u13 23 :: u13 24 :: u13 25 :: u13 26 :: u13 27 :: u13 28 :: u13 29 :: u13 30 :: u13 31 :: u13 32 :: u13 33 :: u13 34 :: u13 35 :: u13 36 :: List.replicate 17 un).toArray, []⟩) (by kernel_rfl) ?_
    refine wp_cond_false (by kernel_rfl) ?_
    refine wp_exit ?_
    repeat first | refine then_exit ?_ | refine block_exit ?_ | refine block_exit_ne (by decide) ?_
    refine then_at (F := ⟨(rarr a :: rarr b :: pt q1 :: pt q4 :: pt q7 :: pt q10 :: iN .i64 16 :: u13 7 :: un :: un :: iN .i64 16 :: .bool false :: u13 12 :: u13 13 :: u13 14 :: u13 15 :: u13 16 :: u13 17 :: u13 18 :: u13 19 :: u13 20 :: u13 21 :: u13 22 :: u13 23 :: u13 24 :: u13 25 :: u13 26 :: u13 27 :: u13 28 :: u13 29 :: u13 30 :: u13 31 :: u13 32 :: u13 33 :: u13 34 :: u13 35 :: u13 36 :: List.replicate 17 un).toArray, []⟩) (by kernel_rfl) ?_
    refine wp_seq ?_
    -- region 9
    refine wl_region ?_
    refine wl_make h26 116 (by kernel_rfl) run_alloc116 ?_
    intro q27 w28 h29
    refine wl_nil ?_
    refine then_at (F := ⟨(rarr a :: rarr b :: pt q1 :: pt q4 :: pt q7 :: pt q10 :: iN .i64 16 :: u13 7 :: pt q27 :: un :: iN .i64 16 :: .bool false :: u13 12 :: u13 13 :: u13 14 :: u13 15 :: u13 16 :: u13 17 :: u13 18 :: u13 19 :: u13 20 :: u13 21 :: u13 22 :: u13 23 :: u13 24 :: u13 25 :: u13 26 :: u13 27 :: u13 28 :: u13 29 :: u13 30 :: u13 31 :: u13 32 :: u13 33 :: u13 34 :: u13 35 :: u13 36 :: List.replicate 17 un).toArray, []⟩) (by kernel_rfl) ?_
    refine wp_seq ?_
    refine wp_seq ?_
    -- region 10
    refine wl_region ?_
    refine wl_val (iN .i64 0) (by kernel_rfl) (by kernel_rfl) ?_
    refine wl_nil ?_
    refine then_at (F := ⟨(rarr a :: rarr b :: pt q1 :: pt q4 :: pt q7 :: pt q10 :: iN .i64 16 :: u13 7 :: pt q27 :: iN .i64 0 :: iN .i64 16 :: .bool false :: u13 12 :: u13 13 :: u13 14 :: u13 15 :: u13 16 :: u13 17 :: u13 18 :: u13 19 :: u13 20 :: u13 21 :: u13 22 :: u13 23 :: u13 24 :: u13 25 :: u13 26 :: u13 27 :: u13 28 :: u13 29 :: u13 30 :: u13 31 :: u13 32 :: u13 33 :: u13 34 :: u13 35 :: u13 36 :: List.replicate 17 un).toArray, []⟩) (by kernel_rfl) ?_
    refine wp_block ?_
    refine wp_count (fun k A w' => ∃ u30 : Nat → Value, A = ⟨(rarr a :: rarr b :: pt q1 :: pt q4 :: pt q7 :: pt q10 :: iN .i64 16 :: u13 7 :: pt q27 :: iN .i64 k :: iN .i64 16 :: .bool false :: u13 12 :: u13 13 :: u13 14 :: u13 15 :: u13 16 :: u13 17 :: u13 18 :: u13 19 :: u13 20 :: u13 21 :: u13 22 :: u13 23 :: u13 24 :: u13 25 :: u13 26 :: u13 27 :: u13 28 :: u13 29 :: u13 30 :: u13 31 :: u13 32 :: u13 33 :: u13 34 :: u13 35 :: u13 36 :: u30 37 :: u30 38 :: u30 39 :: u30 40 :: u30 41 :: u30 42 :: u30 43 :: u30 44 :: u30 45 :: u30 46 :: u30 47 :: u30 48 :: u30 49 :: u30 50 :: u30 51 :: List.replicate 2 un).toArray, []⟩ ∧ HA w [(q27, 116, ul (fillL (halves (wide a b 16)) k)), (q10, 132, ul (wide a b 16)), (q7, 32, rl 0), (q4, 32, rl b), (q1, 32, rl a)] w') 16 ?_ ?_ ?_
    · exact ⟨fun ii => (([(37, undef), (38, undef), (39, undef), (40, undef), (41, undef), (42, undef), (43, undef), (44, undef), (45, undef), (46, undef), (47, undef), (48, undef), (49, undef), (50, undef), (51, undef)] : List (Nat × Value)).find? (·.1 == ii)).elim undef (·.2), by kernel_rfl, h29⟩
    · rintro k hk _ w31 ⟨u30, rfl, h32⟩
      have hw1 := wide_bound a b 16 (Nat.le_refl _) k
      have hw2 := wide_bound a b 16 (Nat.le_refl _) (k + 16)
      refine wp_seq ?_
      refine wp_seq ?_
      -- region 11
      refine wl_region ?_
      refine wl_val (iN .i64 k) (by kernel_rfl) (by kernel_rfl) ?_
      refine wl_val (.bool true) (by kernel_rfl) (run_lss (k := .i64) (a := k) (b := 16) (by kernel_rfl) (by kernel_rfl) true (decide_eq_true hk)) ?_
      refine wl_nil ?_
      refine then_at (F := ⟨(rarr a :: rarr b :: pt q1 :: pt q4 :: pt q7 :: pt q10 :: iN .i64 16 :: u13 7 :: pt q27 :: iN .i64 k :: iN .i64 16 :: .bool false :: u13 12 :: u13 13 :: u13 14 :: u13 15 :: u13 16 :: u13 17 :: u13 18 :: u13 19 :: u13 20 :: u13 21 :: u13 22 :: u13 23 :: u13 24 :: u13 25 :: u13 26 :: u13 27 :: u13 28 :: u13 29 :: u13 30 :: u13 31 :: u13 32 :: u13 33 :: u13 34 :: u13 35 :: u13 36 :: iN .i64 k :: .bool true :: u30 39 :: u30 40 :: u30 41 :: u30 42 :: u30 43 :: u30 44 :: u30 45 :: u30 46 :: u30 47 :: u30 48 :: u30 49 :: u30 50 :: u30 51 :: List.replicate 2 un).toArray, []⟩) (by kernel_rfl) ?_
      refine wp_cond_true (by kernel_rfl) ?_
      refine wp_skip ?_
      refine then_at (F := ⟨(rarr a :: rarr b :: pt q1 :: pt q4 :: pt q7 :: pt q10 :: iN .i64 16 :: u13 7 :: pt q27 :: iN .i64 k :: iN .i64 16 :: .bool false :: u13 12 :: u13 13 :: u13 14 :: u13 15 :: u13 16 :: u13 17 :: u13 18 :: u13 19 :: u13 20 :: u13 21 :: u13 22 :: u13 23 :: u13 24 :: u13 25 :: u13 26 :: u13 27 :: u13 28 :: u13 29 :: u13 30 :: u13 31 :: u13 32 :: u13 33 :: u13 34 :: u13 35 :: u13 36 :: iN .i64 k :: .bool true :: u30 39 :: u30 40 :: u30 41 :: u30 42 :: u30 43 :: u30 44 :: u30 45 :: u30 46 :: u30 47 :: u30 48 :: u30 49 :: u30 50 :: u30 51 :: List.replicate 2 un).toArray, []⟩) (by kernel_rfl) ?_
      refine wp_seq ?_
      refine wp_block ?_
      -- region 13
      refine wp_region_ghost (fun _ : Nat → Nat => (⟨(rarr a :: rarr b :: pt q1 :: pt q4 :: pt q7 :: pt q10 :: iN .i64 16 :: u13 7 :: pt q27 :: iN .i64 k :: iN .i64 16 :: .bool false :: u13 12 :: u13 13 :: u13 14 :: u13 15 :: u13 16 :: u13 17 :: u13 18 :: u13 19 :: u13 20 :: u13 21 :: u13 22 :: u13 23 :: u13 24 :: u13 25 :: u13 26 :: u13 27 :: u13 28 :: u13 29 :: u13 30 :: u13 31 :: u13 32 :: u13 33 :: u13 34 :: u13 35 :: u13 36 :: iN .i64 k :: .bool true :: u30 39 :: u30 40 :: iN .i64 k :: iN .i64 k :: .pointer (some ⟨q10, k, none⟩) :: iN .u64 (dg (wide a b 16) k) :: iN .i64 k :: iN .i64 (k + 16) :: .pointer (some ⟨q10, k + 16, none⟩) :: iN .u64 (dg (wide a b 16) (k + 16)) :: iN .u64 (38 * (dg (wide a b 16) (k + 16))) :: iN .u64 ((dg (wide a b 16) k) + (38 * (dg (wide a b 16) (k + 16)))) :: .pointer (some ⟨q27, k, none⟩) :: List.replicate 2 un).toArray, []⟩ : Act)) (GP w [(q27, 116, ul (fillL (halves (wide a b 16)) k)), (q10, 132, ul (wide a b 16)), (q7, 32, rl 0), (q4, 32, rl b), (q1, 32, rl a)] 11 0 q27 116 (ul (fillL (halves (wide a b 16)) (k + 1)))) [iN .i64 k, iN .i64 k, .pointer (some ⟨q10, k, none⟩), iN .u64 (dg (wide a b 16) k), iN .i64 k, iN .i64 (k + 16), .pointer (some ⟨q10, k + 16, none⟩), iN .u64 (dg (wide a b 16) (k + 16)), iN .u64 (38 * (dg (wide a b 16) (k + 16))), iN .u64 ((dg (wide a b 16) k) + (38 * (dg (wide a b 16) (k + 16)))), .pointer (some ⟨q27, k, none⟩), undef] (by kernel_rfl) (by kernel_rfl) (by kernel_rfl) (by kernel_rfl) (fun _ _ _ _ h => h) (fun d hd => GP.start h32.drew (hd 11 (by decide))) ?_ ?_
      · refine AllGhost.cons (gp_plain (v := iN .i64 k) (by decide) (fun _ => by kernel_rfl) (fun _ => by kernel_rfl) (fun _ _ => (by kernel_rfl))) ?_
        refine AllGhost.cons (gp_plain (v := iN .i64 k) (by decide) (fun _ => by kernel_rfl) (fun _ => by kernel_rfl) (fun _ _ => (by kernel_rfl))) ?_
        refine AllGhost.cons (gp_plain (v := .pointer (some ⟨q10, k, none⟩)) (by decide) (fun _ => by kernel_rfl) (fun _ => by kernel_rfl) (fun _ _ => (run_addr_arr (q := q10) (a := k) Tryd.underlying132 (fun w => Tryd.sizeOf22 w) (by kernel_rfl) (by kernel_rfl) (by omega)))) ?_
        refine AllGhost.cons (gp_cell (v := iN .u64 (dg (wide a b 16) k)) 1 (by decide) rfl (by decide) k (ul_get _ k (by rw [wide_len]; omega)) (fun w => Tryd.isAgg22 w) (fun _ => by kernel_rfl) (fun _ => by kernel_rfl) (fun _ => by kernel_rfl)) ?_
        refine AllGhost.cons (gp_plain (v := iN .i64 k) (by decide) (fun _ => by kernel_rfl) (fun _ => by kernel_rfl) (fun _ _ => (by kernel_rfl))) ?_
        refine AllGhost.cons (gp_plain (v := iN .i64 (k + 16)) (by decide) (fun _ => by kernel_rfl) (fun _ => by kernel_rfl) (fun _ _ => (run_add (k := .i64) (a := k) (b := 16) (by kernel_rfl) (by kernel_rfl) (by simp only [top]; omega)))) ?_
        refine AllGhost.cons (gp_plain (v := .pointer (some ⟨q10, k + 16, none⟩)) (by decide) (fun _ => by kernel_rfl) (fun _ => by kernel_rfl) (fun _ _ => (run_addr_arr (q := q10) (a := k + 16) Tryd.underlying132 (fun w => Tryd.sizeOf22 w) (by kernel_rfl) (by kernel_rfl) (by omega)))) ?_
        refine AllGhost.cons (gp_cell (v := iN .u64 (dg (wide a b 16) (k + 16))) 1 (by decide) rfl (by decide) (k + 16) (ul_get _ (k + 16) (by rw [wide_len]; omega)) (fun w => Tryd.isAgg22 w) (fun _ => by kernel_rfl) (fun _ => by kernel_rfl) (fun _ => by kernel_rfl)) ?_
        refine AllGhost.cons (gp_plain (v := iN .u64 (38 * (dg (wide a b 16) (k + 16)))) (by decide) (fun _ => by kernel_rfl) (fun _ => by kernel_rfl) (fun _ _ => (run_mul (k := .u64) (a := 38) (b := dg (wide a b 16) (k + 16)) (by kernel_rfl) (by kernel_rfl) (by simp only [top]; omega)))) ?_
        refine AllGhost.cons (gp_plain (v := iN .u64 ((dg (wide a b 16) k) + (38 * (dg (wide a b 16) (k + 16))))) (by decide) (fun _ => by kernel_rfl) (fun _ => by kernel_rfl) (fun _ _ => (run_add (k := .u64) (a := dg (wide a b 16) k) (b := 38 * (dg (wide a b 16) (k + 16))) (by kernel_rfl) (by kernel_rfl) (by simp only [top]; omega)))) ?_
        refine AllGhost.cons (gp_plain (v := .pointer (some ⟨q27, k, none⟩)) (by decide) (fun _ => by kernel_rfl) (fun _ => by kernel_rfl) (fun _ _ => (run_addr_arr (q := q27) (a := k) Tryd.underlying116 (fun w => Tryd.sizeOf22 w) (by kernel_rfl) (by kernel_rfl) (by omega)))) ?_
        refine AllGhost.cons (gp_put (k := .u64) (z := (((dg (wide a b 16) k) + (38 * (dg (wide a b 16) (k + 16))) : Nat) : Int)) (off := k) rfl (by rw [ul_size, fill_len _ (halves_len _ (wide_len a b 16)) k (by omega)]; exact hk) (fill_cells _ (halves_len _ (wide_len a b 16)) k hk _ (halves_dg _ (wide_len a b 16) k hk).symm) (fun w => Tryd.sizeOf22 w) (fun _ => by kernel_rfl) (fun _ => by kernel_rfl) (fun _ => by kernel_rfl) (fun _ => by kernel_rfl)) ?_
        exact AllGhost.nil
      intro _ w33 g34
      have h35 : HA w [(q27, 116, ul (fillL (halves (wide a b 16)) (k + 1))), (q10, 132, ul (wide a b 16)), (q7, 32, rl 0), (q4, 32, rl b), (q1, 32, rl a)] w33 := g34
      clear g34
      refine block_normal ?_
      refine then_at (F := ⟨(rarr a :: rarr b :: pt q1 :: pt q4 :: pt q7 :: pt q10 :: iN .i64 16 :: u13 7 :: pt q27 :: iN .i64 k :: iN .i64 16 :: .bool false :: u13 12 :: u13 13 :: u13 14 :: u13 15 :: u13 16 :: u13 17 :: u13 18 :: u13 19 :: u13 20 :: u13 21 :: u13 22 :: u13 23 :: u13 24 :: u13 25 :: u13 26 :: u13 27 :: u13 28 :: u13 29 :: u13 30 :: u13 31 :: u13 32 :: u13 33 :: u13 34 :: u13 35 :: u13 36 :: iN .i64 k :: .bool true :: u30 39 :: u30 40 :: iN .i64 k :: iN .i64 k :: .pointer (some ⟨q10, k, none⟩) :: iN .u64 (dg (wide a b 16) k) :: iN .i64 k :: iN .i64 (k + 16) :: .pointer (some ⟨q10, k + 16, none⟩) :: iN .u64 (dg (wide a b 16) (k + 16)) :: iN .u64 (38 * (dg (wide a b 16) (k + 16))) :: iN .u64 ((dg (wide a b 16) k) + (38 * (dg (wide a b 16) (k + 16)))) :: .pointer (some ⟨q27, k, none⟩) :: List.replicate 2 un).toArray, []⟩) (by kernel_rfl) ?_
      -- region 12
      refine wl_region ?_
      refine wl_val (iN .i64 k) (by kernel_rfl) (by kernel_rfl) ?_
      refine wl_val (iN .i64 (k + 1)) (by kernel_rfl) (run_add (k := .i64) (a := k) (b := 1) (by kernel_rfl) (by kernel_rfl) (by simp only [top]; omega)) ?_
      refine wl_val (iN .i64 (k + 1)) (by kernel_rfl) (by kernel_rfl) ?_
      refine wl_nil ?_
      exact then_I ⟨fun ii => (([(37, iN .i64 k), (38, .bool true), (39, iN .i64 k), (40, iN .i64 (k + 1)), (41, iN .i64 k), (42, iN .i64 k), (43, .pointer (some ⟨q10, k, none⟩)), (44, iN .u64 (dg (wide a b 16) k)), (45, iN .i64 k), (46, iN .i64 (k + 16)), (47, .pointer (some ⟨q10, k + 16, none⟩)), (48, iN .u64 (dg (wide a b 16) (k + 16))), (49, iN .u64 (38 * (dg (wide a b 16) (k + 16)))), (50, iN .u64 ((dg (wide a b 16) k) + (38 * (dg (wide a b 16) (k + 16))))), (51, .pointer (some ⟨q27, k, none⟩))] : List (Nat × Value)).find? (·.1 == ii)).elim undef (·.2), by kernel_rfl, h35⟩
    · rintro _ w36 ⟨u30, rfl, h37⟩
      refine wp_seq ?_
      refine wp_seq ?_
      -- region 11
      refine wl_region ?_
      refine wl_val (iN .i64 16) (by kernel_rfl) (by kernel_rfl) ?_
      refine wl_val (.bool false) (by kernel_rfl) (run_lss (k := .i64) (a := 16) (b := 16) (by kernel_rfl) (by kernel_rfl) false (by decide)) ?_
      refine wl_nil ?_
      refine then_at (F := ⟨(rarr a :: rarr b :: pt q1 :: pt q4 :: pt q7 :: pt q10 :: iN .i64 16 :: u13 7 :: pt q27 :: iN .i64 16 :: iN .i64 16 :: .bool false :: u13 12 :: u13 13 :: u13 14 :: u13 15 :: u13 16 :: u13 17 :: u13 18 :: u13 19 :: u13 20 :: u13 21 :: u13 22 :: u13 23 :: u13 24 :: u13 25 :: u13 26 :: u13 27 :: u13 28 :: u13 29 :: u13 30 :: u13 31 :: u13 32 :: u13 33 :: u13 34 :: u13 35 :: u13 36 :: iN .i64 16 :: .bool false :: u30 39 :: u30 40 :: u30 41 :: u30 42 :: u30 43 :: u30 44 :: u30 45 :: u30 46 :: u30 47 :: u30 48 :: u30 49 :: u30 50 :: u30 51 :: List.replicate 2 un).toArray, []⟩) (by kernel_rfl) ?_
      refine wp_cond_false (by kernel_rfl) ?_
      refine wp_exit ?_
      repeat first | refine then_exit ?_ | refine block_exit ?_ | refine block_exit_ne (by decide) ?_
      have h38 : HA w [(q27, 116, ul (halves (wide a b 16))), (q10, 132, ul (wide a b 16)), (q7, 32, rl 0), (q4, 32, rl b), (q1, 32, rl a)] w36 := by have h9 := h37; rw [fill_end _ (halves_len _ (wide_len a b 16))] at h9; exact h9
      refine then_at (F := ⟨(rarr a :: rarr b :: pt q1 :: pt q4 :: pt q7 :: pt q10 :: iN .i64 16 :: u13 7 :: pt q27 :: iN .i64 16 :: iN .i64 16 :: .bool false :: u13 12 :: u13 13 :: u13 14 :: u13 15 :: u13 16 :: u13 17 :: u13 18 :: u13 19 :: u13 20 :: u13 21 :: u13 22 :: u13 23 :: u13 24 :: u13 25 :: u13 26 :: u13 27 :: u13 28 :: u13 29 :: u13 30 :: u13 31 :: u13 32 :: u13 33 :: u13 34 :: u13 35 :: u13 36 :: iN .i64 16 :: .bool false :: u30 39 :: u30 40 :: u30 41 :: u30 42 :: u30 43 :: u30 44 :: u30 45 :: u30 46 :: u30 47 :: u30 48 :: u30 49 :: u30 50 :: u30 51 :: List.replicate 2 un).toArray, []⟩) (by kernel_rfl) ?_
      refine wp_seq ?_
      -- region 14
      refine wl_region ?_
      refine wl_load h38 0 rfl (by kernel_rfl) (by kernel_rfl) Tryd.underlying116 rfl (by rw [ul_size, halves_len _ (wide_len a b 16)]; exact info116) ?_
      refine wl_call (v := rarr (num 65536 (halves (wide a b 16)) % P)) h38 (by kernel_rfl) enter96 #[.agg (ul (halves (wide a b 16)))] (by kernel_rfl) (reduced_any _ (halves_len _ (wide_len a b 16)) (halves_bound a b) w36) ?_
      intro w39 h40
      refine wl_fill (c' := rl (num 65536 (halves (wide a b 16)) % P)) h40 2 rfl (by kernel_rfl) (by kernel_rfl) (by kernel_rfl) (rl_sz _ _) (info_rl _) (one_rl _) ?_
      intro w41 (h42 : HA w [(q27, 116, ul (halves (wide a b 16))), (q10, 132, ul (wide a b 16)), (q7, 32, rl (num 65536 (halves (wide a b 16)) % P)), (q4, 32, rl b), (q1, 32, rl a)] w41)
      refine wl_nil ?_
      refine then_at (F := ⟨(rarr a :: rarr b :: pt q1 :: pt q4 :: pt q7 :: pt q10 :: iN .i64 16 :: u13 7 :: pt q27 :: iN .i64 16 :: iN .i64 16 :: .bool false :: u13 12 :: u13 13 :: u13 14 :: u13 15 :: u13 16 :: u13 17 :: u13 18 :: u13 19 :: u13 20 :: u13 21 :: u13 22 :: u13 23 :: u13 24 :: u13 25 :: u13 26 :: u13 27 :: u13 28 :: u13 29 :: u13 30 :: u13 31 :: u13 32 :: u13 33 :: u13 34 :: u13 35 :: u13 36 :: iN .i64 16 :: .bool false :: u30 39 :: u30 40 :: u30 41 :: u30 42 :: u30 43 :: u30 44 :: u30 45 :: u30 46 :: u30 47 :: u30 48 :: u30 49 :: u30 50 :: u30 51 :: .agg (ul (halves (wide a b 16))) :: rarr (num 65536 (halves (wide a b 16)) % P) :: List.replicate 0 un).toArray, []⟩) (by kernel_rfl) ?_
      refine wp_ret ?_
      repeat first | refine then_ret ?_ | refine block_ret ?_
      exact bodyPost_ret (v := rarr (num 65536 (halves (wide a b 16)) % P)) (res_cell (p := 4) (by kernel_rfl) (by kernel_rfl) (h42.get 2 rfl) Tryd.underlying32 rfl (info_rl _)) rfl ⟨by rw [mul_num a b ha hb], h42.old⟩
end Go.Proofs.YtpaendmdcdeemaaDoor

namespace Go.Proofs.YtpaendmdcdeemaaDoor
open Go.RowKit Num

set_option maxRecDepth 100000 in
theorem rexp_any (f l : UInt8) (w : World) :
    Calls Tryd.prog 89 #[iN .u8 f.toNat, iN .u8 l.toNat] w fun e w' => e = .returned (.string ⟨(endsL f l).toArray⟩) ∧ Below w.heap.size w w' := by
  have H0 := HA.start w
  go_enter Tryd.func89, Tryd.ntmps89
  refine wp_seq ?_
  -- region 0
  refine wl_region ?_
  refine wl_val (.string { data := #[] }) (by kernel_rfl) (by kernel_rfl) ?_
  refine wl_nil ?_
  refine then_at (F := ⟨(iN .u8 f.toNat :: iN .u8 l.toNat :: un :: un :: .string { data := #[] } :: List.replicate 18 un).toArray, []⟩) (by kernel_rfl) ?_
  refine wp_seq ?_
  -- region 1
  refine wl_region ?_
  refine wl_mkslice (n := 32) H0 5 (by kernel_rfl) (run_mk 32 (by decide) (by kernel_rfl) (by kernel_rfl)) ?_
  intro q1 w2 h3
  refine wl_val (.slice (some ⟨q1, 0, none⟩) 32 32) (by kernel_rfl) (by kernel_rfl) ?_
  refine wl_nil ?_
  refine then_at (F := ⟨(iN .u8 f.toNat :: iN .u8 l.toNat :: un :: un :: .string { data := #[] } :: .slice (some ⟨q1, 0, none⟩) 32 32 :: un :: .slice (some ⟨q1, 0, none⟩) 32 32 :: List.replicate 15 un).toArray, []⟩) (by kernel_rfl) ?_
  refine wp_seq ?_
  refine wp_seq ?_
  -- region 2
  refine wl_region ?_
  refine wl_val (iN .i64 0) (by kernel_rfl) (by kernel_rfl) ?_
  refine wl_nil ?_
  refine then_at (F := ⟨(iN .u8 f.toNat :: iN .u8 l.toNat :: un :: un :: .string { data := #[] } :: .slice (some ⟨q1, 0, none⟩) 32 32 :: iN .i64 0 :: .slice (some ⟨q1, 0, none⟩) 32 32 :: List.replicate 15 un).toArray, []⟩) (by kernel_rfl) ?_
  refine wp_block ?_
  refine wp_count (fun k A w' => ∃ u : Nat → Value, A = ⟨(iN .u8 f.toNat :: iN .u8 l.toNat :: un :: un :: .string { data := #[] } :: .slice (some ⟨q1, 0, none⟩) 32 32 :: iN .i64 k :: .slice (some ⟨q1, 0, none⟩) 32 32 :: u 8 :: u 9 :: u 10 :: u 11 :: u 12 :: u 13 :: u 14 :: List.replicate 8 un).toArray, []⟩ ∧ HA w [(q1, 5, ff k)] w') 32 ?_ ?_ ?_
  · exact ⟨fun ii => (([(8, undef), (9, undef), (10, undef), (11, undef), (12, undef), (13, undef), (14, undef)] : List (Nat × Value)).find? (·.1 == ii)).elim undef (·.2), by kernel_rfl, (by rw [← (by kernel_rfl : zr 32 = ff 0)]; exact h3)⟩
  · rintro k hk _ w4 ⟨u, rfl, h5⟩
    refine wp_seq ?_
    refine wp_seq ?_
    -- region 3
    refine wl_region ?_
    refine wl_val (iN .i64 k) (by kernel_rfl) (by kernel_rfl) ?_
    refine wl_val (.bool true) (by kernel_rfl) (run_lss (k := .i64) (a := k) (b := 32) (by kernel_rfl) (by kernel_rfl) true (decide_eq_true hk)) ?_
    refine wl_nil ?_
    refine then_at (F := ⟨(iN .u8 f.toNat :: iN .u8 l.toNat :: un :: un :: .string { data := #[] } :: .slice (some ⟨q1, 0, none⟩) 32 32 :: iN .i64 k :: .slice (some ⟨q1, 0, none⟩) 32 32 :: iN .i64 k :: .bool true :: u 10 :: u 11 :: u 12 :: u 13 :: u 14 :: List.replicate 8 un).toArray, []⟩) (by kernel_rfl) ?_
    refine wp_cond_true (by kernel_rfl) ?_
    refine wp_skip ?_
    refine then_at (F := ⟨(iN .u8 f.toNat :: iN .u8 l.toNat :: un :: un :: .string { data := #[] } :: .slice (some ⟨q1, 0, none⟩) 32 32 :: iN .i64 k :: .slice (some ⟨q1, 0, none⟩) 32 32 :: iN .i64 k :: .bool true :: u 10 :: u 11 :: u 12 :: u 13 :: u 14 :: List.replicate 8 un).toArray, []⟩) (by kernel_rfl) ?_
    refine wp_seq ?_
    refine wp_block ?_
    -- region 5
    refine wl_region ?_
    refine wl_val (.slice (some ⟨q1, 0, none⟩) 32 32) (by kernel_rfl) (by kernel_rfl) ?_
    refine wl_val (iN .i64 k) (by kernel_rfl) (by kernel_rfl) ?_
    refine wl_val (.pointer (some ⟨q1, k, none⟩)) (by kernel_rfl) (run_addr_slice (q := q1) (n := 32) (m := 32) (a := k) Tryd.underlying60 (fun w => Tryd.sizeOf5 w) (by kernel_rfl) (by kernel_rfl) (by omega)) ?_
    refine wl_put (k := .u8) (z := ((255 : Nat) : Int)) h5 0 rfl k (by rw [ff_size k (by omega)]; exact hk) (by kernel_rfl) (fun w => Tryd.sizeOf5 w) (by kernel_rfl) (by kernel_rfl) ?_
    intro w6 h7
    have h8 : HA w [(q1, 5, ff (k + 1))] w6 := (by have := ff_put k hk; rw [← this]; exact h7)
    clear h7
    refine wl_nil ?_
    refine block_normal ?_
    refine then_at (F := ⟨(iN .u8 f.toNat :: iN .u8 l.toNat :: un :: un :: .string { data := #[] } :: .slice (some ⟨q1, 0, none⟩) 32 32 :: iN .i64 k :: .slice (some ⟨q1, 0, none⟩) 32 32 :: iN .i64 k :: .bool true :: u 10 :: u 11 :: .slice (some ⟨q1, 0, none⟩) 32 32 :: iN .i64 k :: .pointer (some ⟨q1, k, none⟩) :: List.replicate 8 un).toArray, []⟩) (by kernel_rfl) ?_
    -- region 4
    refine wl_region ?_
    refine wl_val (iN .i64 k) (by kernel_rfl) (by kernel_rfl) ?_
    refine wl_val (iN .i64 (k + 1)) (by kernel_rfl) (run_add (k := .i64) (a := k) (b := 1) (by kernel_rfl) (by kernel_rfl) (by simp only [top]; omega)) ?_
    refine wl_val (iN .i64 (k + 1)) (by kernel_rfl) (by kernel_rfl) ?_
    refine wl_nil ?_
    exact then_I ⟨fun ii => (([(8, iN .i64 k), (9, .bool true), (10, iN .i64 k), (11, iN .i64 (k + 1)), (12, .slice (some ⟨q1, 0, none⟩) 32 32), (13, iN .i64 k), (14, .pointer (some ⟨q1, k, none⟩))] : List (Nat × Value)).find? (·.1 == ii)).elim undef (·.2), by kernel_rfl, h8⟩
  · rintro _ w9 ⟨u, rfl, h10⟩
    refine wp_seq ?_
    refine wp_seq ?_
    -- region 3
    refine wl_region ?_
    refine wl_val (iN .i64 32) (by kernel_rfl) (by kernel_rfl) ?_
    refine wl_val (.bool false) (by kernel_rfl) (run_lss (k := .i64) (a := 32) (b := 32) (by kernel_rfl) (by kernel_rfl) false (by decide)) ?_
    refine wl_nil ?_
    refine then_at (F := ⟨(iN .u8 f.toNat :: iN .u8 l.toNat :: un :: un :: .string { data := #[] } :: .slice (some ⟨q1, 0, none⟩) 32 32 :: iN .i64 32 :: .slice (some ⟨q1, 0, none⟩) 32 32 :: iN .i64 32 :: .bool false :: u 10 :: u 11 :: u 12 :: u 13 :: u 14 :: List.replicate 8 un).toArray, []⟩) (by kernel_rfl) ?_
    refine wp_cond_false (by kernel_rfl) ?_
    refine wp_exit ?_
    repeat first | refine then_exit ?_ | refine block_exit ?_ | refine block_exit_ne (by decide) ?_
    refine then_at (F := ⟨(iN .u8 f.toNat :: iN .u8 l.toNat :: un :: un :: .string { data := #[] } :: .slice (some ⟨q1, 0, none⟩) 32 32 :: iN .i64 32 :: .slice (some ⟨q1, 0, none⟩) 32 32 :: iN .i64 32 :: .bool false :: u 10 :: u 11 :: u 12 :: u 13 :: u 14 :: List.replicate 8 un).toArray, []⟩) (by kernel_rfl) ?_
    refine wp_seq ?_
    -- region 6
    refine wl_region ?_
    refine wl_val (.slice (some ⟨q1, 0, none⟩) 32 32) (by kernel_rfl) (by kernel_rfl) ?_
    refine wl_val (iN .u8 f.toNat) (by kernel_rfl) (by kernel_rfl) ?_
    refine wl_val (.pointer (some ⟨q1, 0, none⟩)) (by kernel_rfl) (run_addr_slice (q := q1) (n := 32) (m := 32) (a := 0) Tryd.underlying60 (fun w => Tryd.sizeOf5 w) (by kernel_rfl) (by kernel_rfl) (by decide)) ?_
    refine wl_put (k := .u8) (z := ((f.toNat : Nat) : Int)) h10 0 rfl 0 (by decide) (by kernel_rfl) (fun w => Tryd.sizeOf5 w) (by kernel_rfl) (by kernel_rfl) ?_
    intro w11 h12
    have h13 : HA w [(q1, 5, (ff 32).setIfInBounds 0 (iN .u8 f.toNat))] w11 := h12
    clear h12
    refine wl_nil ?_
    refine then_at (F := ⟨(iN .u8 f.toNat :: iN .u8 l.toNat :: un :: un :: .string { data := #[] } :: .slice (some ⟨q1, 0, none⟩) 32 32 :: iN .i64 32 :: .slice (some ⟨q1, 0, none⟩) 32 32 :: iN .i64 32 :: .bool false :: u 10 :: u 11 :: u 12 :: u 13 :: u 14 :: .slice (some ⟨q1, 0, none⟩) 32 32 :: iN .u8 f.toNat :: pt q1 :: List.replicate 5 un).toArray, []⟩) (by kernel_rfl) ?_
    refine wp_seq ?_
    -- region 7
    refine wl_region ?_
    refine wl_val (.slice (some ⟨q1, 0, none⟩) 32 32) (by kernel_rfl) (by kernel_rfl) ?_
    refine wl_val (iN .u8 l.toNat) (by kernel_rfl) (by kernel_rfl) ?_
    refine wl_val (.pointer (some ⟨q1, 31, none⟩)) (by kernel_rfl) (run_addr_slice (q := q1) (n := 32) (m := 32) (a := 31) Tryd.underlying60 (fun w => Tryd.sizeOf5 w) (by kernel_rfl) (by kernel_rfl) (by decide)) ?_
    refine wl_put (k := .u8) (z := ((l.toNat : Nat) : Int)) h13 0 rfl 31 (by rw [Array.size_setIfInBounds, ff_size 32 (by decide)]; decide) (by kernel_rfl) (fun w => Tryd.sizeOf5 w) (by kernel_rfl) (by kernel_rfl) ?_
    intro w14 h15
    have h16 : HA w [(q1, 5, (cs (endsL f l)).toArray)] w14 := (by rw [← ff_ends]; exact h15)
    clear h15
    refine wl_nil ?_
    refine then_at (F := ⟨(iN .u8 f.toNat :: iN .u8 l.toNat :: un :: un :: .string { data := #[] } :: .slice (some ⟨q1, 0, none⟩) 32 32 :: iN .i64 32 :: .slice (some ⟨q1, 0, none⟩) 32 32 :: iN .i64 32 :: .bool false :: u 10 :: u 11 :: u 12 :: u 13 :: u 14 :: .slice (some ⟨q1, 0, none⟩) 32 32 :: iN .u8 f.toNat :: pt q1 :: .slice (some ⟨q1, 0, none⟩) 32 32 :: iN .u8 l.toNat :: .pointer (some ⟨q1, 31, none⟩) :: List.replicate 2 un).toArray, []⟩) (by kernel_rfl) ?_
    refine wp_seq ?_
    -- region 8
    refine wl_region ?_
    refine wl_val (.slice (some ⟨q1, 0, none⟩) 32 32) (by kernel_rfl) (by kernel_rfl) ?_
    refine wl_val (.string ⟨(endsL f l).toArray⟩) (by kernel_rfl) (run_text (endsL f l) (by kernel_rfl) (h16.get 0 rfl) rfl rfl) ?_
    refine wl_val (.string ⟨(endsL f l).toArray⟩) (by kernel_rfl) (by kernel_rfl) ?_
    refine wl_nil ?_
    refine then_at (F := ⟨(iN .u8 f.toNat :: iN .u8 l.toNat :: un :: un :: .string ⟨(endsL f l).toArray⟩ :: .slice (some ⟨q1, 0, none⟩) 32 32 :: iN .i64 32 :: .slice (some ⟨q1, 0, none⟩) 32 32 :: iN .i64 32 :: .bool false :: u 10 :: u 11 :: u 12 :: u 13 :: u 14 :: .slice (some ⟨q1, 0, none⟩) 32 32 :: iN .u8 f.toNat :: pt q1 :: .slice (some ⟨q1, 0, none⟩) 32 32 :: iN .u8 l.toNat :: .pointer (some ⟨q1, 31, none⟩) :: .slice (some ⟨q1, 0, none⟩) 32 32 :: .string ⟨(endsL f l).toArray⟩ :: List.replicate 0 un).toArray, []⟩) (by kernel_rfl) ?_
    refine wp_ret ?_
    repeat first | refine then_ret ?_ | refine block_ret ?_
    exact bodyPost_ret (v := .string ⟨(endsL f l).toArray⟩) (by kernel_rfl) rfl ⟨rfl, h16.old⟩
end Go.Proofs.YtpaendmdcdeemaaDoor

namespace Go.Proofs.YtpaendmdcdeemaaDoor
open Go.RowKit Num

theorem bit_of (s : ByteArray) (j : Nat) : (sb s (j / 8) / 2 ^ (j % 8) &&& 1) = numS s / 2 ^ j % 2 := by
  have e : 2 ^ j = 256 ^ (j / 8) * 2 ^ (j % 8) := by
    rw [show (256 : Nat) = 2 ^ 8 from rfl, ← Nat.pow_mul, ← Nat.pow_add]
    congr 1
    omega
  have h1 : (sb s (j / 8) / 2 ^ (j % 8) &&& 1) = sb s (j / 8) / 2 ^ (j % 8) % 2 := Nat.and_two_pow_sub_one_eq_mod _ 1
  rw [h1, e, ← Nat.div_div_eq_div_mul]
  unfold sb
  generalize numS s / 256 ^ (j / 8) = M
  have hr : j % 8 < 8 := Nat.mod_lt _ (by decide)
  generalize j % 8 = r at *
  rcases r with _ | _ | _ | _ | _ | _ | _ | _ | r
  all_goals first | (simp only [Nat.reduceAdd, Nat.reducePow]; omega) | omega
/-- the power behind bit j -/
def pwr (a : Nat) (s : ByteArray) (j : Nat) : Nat := a ^ (numS s / 2 ^ j) % P
theorem pwr_lt (a : Nat) (s : ByteArray) (j : Nat) : pwr a s j < P := Nat.mod_lt _ P_pos
theorem pwr_start (a : Nat) (s : ByteArray) (hs : s.size = 32) : pwr a s 256 = 1 := by
  have h1 := num_lt 256 (bts s) (bts_lt s)
  rw [bts_length, hs] at h1
  unfold pwr
  rw [Nat.div_eq_of_lt (show numS s < 2 ^ 256 from Nat.lt_of_lt_of_le h1 (by decide)), Nat.pow_zero]
  rfl
theorem pwr_step (a : Nat) (s : ByteArray) (j : Nat) : pwr a s j = if numS s / 2 ^ j % 2 = 1 then mulP (mulP (pwr a s (j + 1)) (pwr a s (j + 1))) a else mulP (pwr a s (j + 1)) (pwr a s (j + 1)) := by
  unfold pwr mulP
  have e : numS s / 2 ^ (j + 1) = numS s / 2 ^ j / 2 := by rw [Nat.pow_succ, Nat.div_div_eq_div_mul]
  rw [e]
  generalize numS s / 2 ^ j = E
  have hE : E = E / 2 + E / 2 + E % 2 := by omega
  rw [← Nat.mul_mod]
  split
  · rename_i h
    conv => lhs; rw [hE, h, Nat.pow_add, Nat.pow_add, Nat.pow_one]
    rw [Nat.mod_mul_mod]
  · rename_i h
    have h0 : E % 2 = 0 := by omega
    conv => lhs; rw [hE, h0, Nat.add_zero, Nat.pow_add]
theorem pwr_one (a : Nat) (s : ByteArray) (j : Nat) (h : (sb s (j / 8) / 2 ^ (j % 8) &&& 1) = 1) : mulP (mulP (pwr a s (j + 1)) (pwr a s (j + 1))) a = pwr a s j := by
  rw [bit_of] at h
  rw [pwr_step a s j, if_pos h]
theorem pwr_nil (a : Nat) (s : ByteArray) (j : Nat) (h : ¬ (sb s (j / 8) / 2 ^ (j % 8) &&& 1) = 1) : mulP (pwr a s (j + 1)) (pwr a s (j + 1)) = pwr a s j := by
  rw [bit_of] at h
  rw [pwr_step a s j, if_neg h]
theorem pwr_zero (a : Nat) (s : ByteArray) : pwr a s 0 = a ^ numS s % P := by unfold pwr; rw [Nat.pow_zero, Nat.div_one]
end Go.Proofs.YtpaendmdcdeemaaDoor

namespace Go.Proofs.YtpaendmdcdeemaaDoor
open Go.RowKit Num

set_option linter.unusedVariables false in
set_option maxRecDepth 100000 in
set_option maxHeartbeats 2000000 in
theorem rpower_any (a : Nat) (s : ByteArray) (ha : a < P) (hs : s.size = 32) (w : World) : Calls Tryd.prog 88 #[rarr a, .string s] w fun e w' => e = .returned (rarr (a ^ numS s % P)) ∧ Below w.heap.size w w' := by
  have H0 := HA.start w
  go_enter Tryd.func88, Tryd.ntmps88
  refine wp_seq ?_
  -- region 0
  refine wl_region ?_
  refine wl_make H0 32 (by kernel_rfl) (run_box32 (c := rl a) (by kernel_rfl)) ?_
  intro q1 w2 h3
  refine wl_make h3 32 (by kernel_rfl) run_alloc32 ?_
  intro q4 w5 h6
  refine wl_nil ?_
  refine then_at (F := ⟨(rarr a :: .string s :: pt q1 :: un :: pt q4 :: List.replicate 23 un).toArray, []⟩) (by kernel_rfl) ?_
  refine wp_seq ?_
  -- region 1
  refine wl_region ?_
  refine wl_call (v := rarr 1) h6 (by kernel_rfl) enter97 #[iN .u32 1] (by kernel_rfl) (rsmall_any 1 (by decide) w5) ?_
  intro w7 h8
  refine wl_make h8 32 (by kernel_rfl) run_alloc32 ?_
  intro q9 w10 h11
  refine wl_fill (c' := rl 1) h11 0 rfl (by kernel_rfl) (by kernel_rfl) (by kernel_rfl) (rl_sz _ _) (info_rl _) (one_rl _) ?_
  intro w12 (h13 : HA w [(q9, 32, rl 1), (q4, 32, rl 0), (q1, 32, rl a)] w12)
  refine wl_nil ?_
  refine then_at (F := ⟨(rarr a :: .string s :: pt q1 :: un :: pt q4 :: pt q9 :: un :: rarr 1 :: List.replicate 20 un).toArray, []⟩) (by kernel_rfl) ?_
  refine wp_seq ?_
  refine wp_seq ?_
  -- region 2
  refine wl_region ?_
  refine wl_val (iN .i64 255) (by kernel_rfl) (by kernel_rfl) ?_
  refine wl_nil ?_
  refine then_at (F := ⟨(rarr a :: .string s :: pt q1 :: un :: pt q4 :: pt q9 :: iN .i64 255 :: rarr 1 :: List.replicate 20 un).toArray, []⟩) (by kernel_rfl) ?_
  refine wp_block ?_
  refine wp_count (fun k A w' => ∃ u14 : Nat → Value, A = ⟨(rarr a :: .string s :: pt q1 :: un :: pt q4 :: pt q9 :: dnv (256 - k) :: rarr 1 :: u14 8 :: u14 9 :: u14 10 :: u14 11 :: u14 12 :: u14 13 :: u14 14 :: u14 15 :: u14 16 :: u14 17 :: u14 18 :: u14 19 :: u14 20 :: u14 21 :: u14 22 :: u14 23 :: u14 24 :: u14 25 :: u14 26 :: List.replicate 1 un).toArray, []⟩ ∧ HA w [(q9, 32, rl (pwr a s (256 - k))), (q4, 32, rl 0), (q1, 32, rl a)] w') 256 ?_ ?_ ?_
  · exact ⟨fun ii => (([(8, undef), (9, undef), (10, undef), (11, undef), (12, undef), (13, undef), (14, undef), (15, undef), (16, undef), (17, undef), (18, undef), (19, undef), (20, undef), (21, undef), (22, undef), (23, undef), (24, undef), (25, undef), (26, undef)] : List (Nat × Value)).find? (·.1 == ii)).elim undef (·.2), by kernel_rfl, (by rw [pwr_start a s hs]; exact h13)⟩
  · rintro k hk _ w15 ⟨u14, rfl, h16⟩
    obtain ⟨j, hj, ej⟩ : ∃ j, j < 256 ∧ 256 - k = j + 1 := ⟨255 - k, by omega, by omega⟩
    have ej2 : 256 - (k + 1) = j := by omega
    rw [ej] at h16
    rw [ej, ej2]
    refine wp_seq ?_
    refine wp_seq ?_
    -- region 3
    refine wl_region ?_
    refine wl_val (iN .i64 j) (by kernel_rfl) (by kernel_rfl) ?_
    refine wl_val (.bool true) (by kernel_rfl) (run_geq0 (k := .i64) (a := ((j : Nat) : Int)) (b := 0) (by kernel_rfl) (by kernel_rfl) true (decide_eq_true (by omega))) ?_
    refine wl_nil ?_
    refine then_at (F := ⟨(rarr a :: .string s :: pt q1 :: un :: pt q4 :: pt q9 :: iN .i64 j :: rarr 1 :: iN .i64 j :: .bool true :: u14 10 :: u14 11 :: u14 12 :: u14 13 :: u14 14 :: u14 15 :: u14 16 :: u14 17 :: u14 18 :: u14 19 :: u14 20 :: u14 21 :: u14 22 :: u14 23 :: u14 24 :: u14 25 :: u14 26 :: List.replicate 1 un).toArray, []⟩) (by kernel_rfl) ?_
    refine wp_cond_true (by kernel_rfl) ?_
    refine wp_skip ?_
    refine then_at (F := ⟨(rarr a :: .string s :: pt q1 :: un :: pt q4 :: pt q9 :: iN .i64 j :: rarr 1 :: iN .i64 j :: .bool true :: u14 10 :: u14 11 :: u14 12 :: u14 13 :: u14 14 :: u14 15 :: u14 16 :: u14 17 :: u14 18 :: u14 19 :: u14 20 :: u14 21 :: u14 22 :: u14 23 :: u14 24 :: u14 25 :: u14 26 :: List.replicate 1 un).toArray, []⟩) (by kernel_rfl) ?_
    refine wp_seq ?_
    refine wp_block ?_
    refine wp_seq ?_
    -- region 5
    refine wl_region ?_
    refine wl_load h16 0 rfl (by kernel_rfl) (by kernel_rfl) Tryd.underlying32 rfl (info_rl _) ?_
    refine wl_load h16 0 rfl (by kernel_rfl) (by kernel_rfl) Tryd.underlying32 rfl (info_rl _) ?_
    refine wl_call (v := rarr (mulP (pwr a s (j + 1)) (pwr a s (j + 1)))) h16 (by kernel_rfl) enter90 #[rarr (pwr a s (j + 1)), rarr (pwr a s (j + 1))] (by kernel_rfl) (rmul_any (pwr a s (j + 1)) (pwr a s (j + 1)) (Nat.lt_trans (pwr_lt _ _ _) (by decide)) (Nat.lt_trans (pwr_lt _ _ _) (by decide)) w15) ?_
    intro w17 h18
    refine wl_fill (c' := rl (mulP (pwr a s (j + 1)) (pwr a s (j + 1)))) h18 0 rfl (by kernel_rfl) (by kernel_rfl) (by kernel_rfl) (rl_sz _ _) (info_rl _) (one_rl _) ?_
    intro w19 (h20 : HA w [(q9, 32, rl (mulP (pwr a s (j + 1)) (pwr a s (j + 1)))), (q4, 32, rl 0), (q1, 32, rl a)] w19)
    refine wl_nil ?_
    refine then_at (F := ⟨(rarr a :: .string s :: pt q1 :: un :: pt q4 :: pt q9 :: iN .i64 j :: rarr 1 :: iN .i64 j :: .bool true :: u14 10 :: u14 11 :: rarr (pwr a s (j + 1)) :: rarr (pwr a s (j + 1)) :: rarr (mulP (pwr a s (j + 1)) (pwr a s (j + 1))) :: u14 15 :: u14 16 :: u14 17 :: u14 18 :: u14 19 :: u14 20 :: u14 21 :: u14 22 :: u14 23 :: u14 24 :: u14 25 :: u14 26 :: List.replicate 1 un).toArray, []⟩) (by kernel_rfl) ?_
    refine wp_seq ?_
    by_cases hbit : (sb s (j / 8) / 2 ^ (j % 8) &&& 1) = 1
    · -- region 6
      refine wl_region ?_
      refine wl_val (.string s) (by kernel_rfl) (by kernel_rfl) ?_
      refine wl_val (iN .i64 j) (by kernel_rfl) (by kernel_rfl) ?_
      refine wl_val (iN .i64 (j / 8)) (by kernel_rfl) (run_quo (k := .i64) (a := j) (b := 8) (by kernel_rfl) (by kernel_rfl) (by omega) (by simp only [top]; omega)) ?_
      refine wl_val (iN .u8 (sb s (j / 8))) (by kernel_rfl) (run_sidx (s := s) (a := j / 8) (by kernel_rfl) (by kernel_rfl) (by omega)) ?_
      refine wl_val (iN .i64 j) (by kernel_rfl) (by kernel_rfl) ?_
      refine wl_val (iN .i64 (j % 8)) (by kernel_rfl) (run_rem (k := .i64) (a := j) (b := 8) (by kernel_rfl) (by kernel_rfl) (by omega)) ?_
      refine wl_val (iN .u8 (sb s (j / 8) / 2 ^ (j % 8))) (by kernel_rfl) (run_shr (k2 := .i64) (k := .u8) (a := sb s (j / 8)) (b := j % 8) (by kernel_rfl) (by kernel_rfl) (show j % 8 ≤ 8 by omega)) ?_
      refine wl_val (iN .u8 (sb s (j / 8) / 2 ^ (j % 8) &&& 1)) (by kernel_rfl) (run_and8 (a := sb s (j / 8) / 2 ^ (j % 8)) (b := 1) (by kernel_rfl) (by kernel_rfl) (Nat.lt_of_le_of_lt (Nat.div_le_self _ _) (sb_lt s _)) (by decide)) ?_
      refine wl_val (.bool true) (by kernel_rfl) (run_eqi (k := .u8) (a := sb s (j / 8) / 2 ^ (j % 8) &&& 1) (b := 1) (by kernel_rfl) (by kernel_rfl) true (decide_eq_true hbit)) ?_
      refine wl_nil ?_
      refine then_at (F := ⟨(rarr a :: .string s :: pt q1 :: un :: pt q4 :: pt q9 :: iN .i64 j :: rarr 1 :: iN .i64 j :: .bool true :: u14 10 :: u14 11 :: rarr (pwr a s (j + 1)) :: rarr (pwr a s (j + 1)) :: rarr (mulP (pwr a s (j + 1)) (pwr a s (j + 1))) :: .string s :: iN .i64 j :: iN .i64 (j / 8) :: iN .u8 (sb s (j / 8)) :: iN .i64 j :: iN .i64 (j % 8) :: iN .u8 (sb s (j / 8) / 2 ^ (j % 8)) :: iN .u8 (sb s (j / 8) / 2 ^ (j % 8) &&& 1) :: .bool true :: u14 24 :: u14 25 :: u14 26 :: List.replicate 1 un).toArray, []⟩) (by kernel_rfl) ?_
      refine wp_cond_true (by kernel_rfl) ?_
      -- region 7
      refine wl_region ?_
      refine wl_load h20 0 rfl (by kernel_rfl) (by kernel_rfl) Tryd.underlying32 rfl (info_rl _) ?_
      refine wl_load h20 2 rfl (by kernel_rfl) (by kernel_rfl) Tryd.underlying32 rfl (info_rl _) ?_
      refine wl_call (v := rarr (mulP (mulP (pwr a s (j + 1)) (pwr a s (j + 1))) a)) h20 (by kernel_rfl) enter90 #[rarr (mulP (pwr a s (j + 1)) (pwr a s (j + 1))), rarr a] (by kernel_rfl) (rmul_any (mulP (pwr a s (j + 1)) (pwr a s (j + 1))) a (Nat.lt_trans (mulP_lt _ _) (by decide)) (Nat.lt_trans ha (by decide)) w19) ?_
      intro w21 h22
      refine wl_fill (c' := rl (mulP (mulP (pwr a s (j + 1)) (pwr a s (j + 1))) a)) h22 0 rfl (by kernel_rfl) (by kernel_rfl) (by kernel_rfl) (rl_sz _ _) (info_rl _) (one_rl _) ?_
      intro w23 (h24 : HA w [(q9, 32, rl (mulP (mulP (pwr a s (j + 1)) (pwr a s (j + 1))) a)), (q4, 32, rl 0), (q1, 32, rl a)] w23)
      refine wl_nil ?_
      refine block_normal ?_
      refine then_at (F := ⟨(rarr a :: .string s :: pt q1 :: un :: pt q4 :: pt q9 :: iN .i64 j :: rarr 1 :: iN .i64 j :: .bool true :: u14 10 :: u14 11 :: rarr (pwr a s (j + 1)) :: rarr (pwr a s (j + 1)) :: rarr (mulP (pwr a s (j + 1)) (pwr a s (j + 1))) :: .string s :: iN .i64 j :: iN .i64 (j / 8) :: iN .u8 (sb s (j / 8)) :: iN .i64 j :: iN .i64 (j % 8) :: iN .u8 (sb s (j / 8) / 2 ^ (j % 8)) :: iN .u8 (sb s (j / 8) / 2 ^ (j % 8) &&& 1) :: .bool true :: rarr (mulP (pwr a s (j + 1)) (pwr a s (j + 1))) :: rarr a :: rarr (mulP (mulP (pwr a s (j + 1)) (pwr a s (j + 1))) a) :: List.replicate 1 un).toArray, []⟩) (by kernel_rfl) ?_
      -- region 4
      refine wl_region ?_
      refine wl_val (iN .i64 j) (by kernel_rfl) (by kernel_rfl) ?_
      refine wl_val (dnv j) (by kernel_rfl) (run_dec (j := j) (by omega) (by kernel_rfl) (by kernel_rfl)) ?_
      refine wl_val (dnv j) (by kernel_rfl) (by kernel_rfl) ?_
      refine wl_nil ?_
      exact then_I ⟨fun ii => (([(8, iN .i64 j), (9, .bool true), (10, iN .i64 j), (11, dnv j), (12, rarr (pwr a s (j + 1))), (13, rarr (pwr a s (j + 1))), (14, rarr (mulP (pwr a s (j + 1)) (pwr a s (j + 1)))), (15, .string s), (16, iN .i64 j), (17, iN .i64 (j / 8)), (18, iN .u8 (sb s (j / 8))), (19, iN .i64 j), (20, iN .i64 (j % 8)), (21, iN .u8 (sb s (j / 8) / 2 ^ (j % 8))), (22, iN .u8 (sb s (j / 8) / 2 ^ (j % 8) &&& 1)), (23, .bool true), (24, rarr (mulP (pwr a s (j + 1)) (pwr a s (j + 1)))), (25, rarr a), (26, rarr (mulP (mulP (pwr a s (j + 1)) (pwr a s (j + 1))) a))] : List (Nat × Value)).find? (·.1 == ii)).elim undef (·.2), by kernel_rfl, (by rw [← pwr_one a s j hbit]; exact h24)⟩
    · -- region 6
      refine wl_region ?_
      refine wl_val (.string s) (by kernel_rfl) (by kernel_rfl) ?_
      refine wl_val (iN .i64 j) (by kernel_rfl) (by kernel_rfl) ?_
      refine wl_val (iN .i64 (j / 8)) (by kernel_rfl) (run_quo (k := .i64) (a := j) (b := 8) (by kernel_rfl) (by kernel_rfl) (by omega) (by simp only [top]; omega)) ?_
      refine wl_val (iN .u8 (sb s (j / 8))) (by kernel_rfl) (run_sidx (s := s) (a := j / 8) (by kernel_rfl) (by kernel_rfl) (by omega)) ?_
      refine wl_val (iN .i64 j) (by kernel_rfl) (by kernel_rfl) ?_
      refine wl_val (iN .i64 (j % 8)) (by kernel_rfl) (run_rem (k := .i64) (a := j) (b := 8) (by kernel_rfl) (by kernel_rfl) (by omega)) ?_
      refine wl_val (iN .u8 (sb s (j / 8) / 2 ^ (j % 8))) (by kernel_rfl) (run_shr (k2 := .i64) (k := .u8) (a := sb s (j / 8)) (b := j % 8) (by kernel_rfl) (by kernel_rfl) (show j % 8 ≤ 8 by omega)) ?_
      refine wl_val (iN .u8 (sb s (j / 8) / 2 ^ (j % 8) &&& 1)) (by kernel_rfl) (run_and8 (a := sb s (j / 8) / 2 ^ (j % 8)) (b := 1) (by kernel_rfl) (by kernel_rfl) (Nat.lt_of_le_of_lt (Nat.div_le_self _ _) (sb_lt s _)) (by decide)) ?_
      refine wl_val (.bool false) (by kernel_rfl) (run_eqi (k := .u8) (a := sb s (j / 8) / 2 ^ (j % 8) &&& 1) (b := 1) (by kernel_rfl) (by kernel_rfl) false (decide_eq_false hbit)) ?_
      refine wl_nil ?_
      refine then_at (F := ⟨(rarr a :: .string s :: pt q1 :: un :: pt q4 :: pt q9 :: iN .i64 j :: rarr 1 :: iN .i64 j :: .bool true :: u14 10 :: u14 11 :: rarr (pwr a s (j + 1)) :: rarr (pwr a s (j + 1)) :: rarr (mulP (pwr a s (j + 1)) (pwr a s (j + 1))) :: .string s :: iN .i64 j :: iN .i64 (j / 8) :: iN .u8 (sb s (j / 8)) :: iN .i64 j :: iN .i64 (j % 8) :: iN .u8 (sb s (j / 8) / 2 ^ (j % 8)) :: iN .u8 (sb s (j / 8) / 2 ^ (j % 8) &&& 1) :: .bool false :: u14 24 :: u14 25 :: u14 26 :: List.replicate 1 un).toArray, []⟩) (by kernel_rfl) ?_
      refine wp_cond_false (by kernel_rfl) ?_
      refine wp_skip ?_
      refine block_normal ?_
      refine then_at (F := ⟨(rarr a :: .string s :: pt q1 :: un :: pt q4 :: pt q9 :: iN .i64 j :: rarr 1 :: iN .i64 j :: .bool true :: u14 10 :: u14 11 :: rarr (pwr a s (j + 1)) :: rarr (pwr a s (j + 1)) :: rarr (mulP (pwr a s (j + 1)) (pwr a s (j + 1))) :: .string s :: iN .i64 j :: iN .i64 (j / 8) :: iN .u8 (sb s (j / 8)) :: iN .i64 j :: iN .i64 (j % 8) :: iN .u8 (sb s (j / 8) / 2 ^ (j % 8)) :: iN .u8 (sb s (j / 8) / 2 ^ (j % 8) &&& 1) :: .bool false :: u14 24 :: u14 25 :: u14 26 :: List.replicate 1 un).toArray, []⟩) (by kernel_rfl) ?_
      -- region 4
      refine wl_region ?_
      refine wl_val (iN .i64 j) (by kernel_rfl) (by kernel_rfl) ?_
      refine wl_val (dnv j) (by kernel_rfl) (run_dec (j := j) (by omega) (by kernel_rfl) (by kernel_rfl)) ?_
      refine wl_val (dnv j) (by kernel_rfl) (by kernel_rfl) ?_
      refine wl_nil ?_
      exact then_I ⟨fun ii => (([(8, iN .i64 j), (9, .bool true), (10, iN .i64 j), (11, dnv j), (12, rarr (pwr a s (j + 1))), (13, rarr (pwr a s (j + 1))), (14, rarr (mulP (pwr a s (j + 1)) (pwr a s (j + 1)))), (15, .string s), (16, iN .i64 j), (17, iN .i64 (j / 8)), (18, iN .u8 (sb s (j / 8))), (19, iN .i64 j), (20, iN .i64 (j % 8)), (21, iN .u8 (sb s (j / 8) / 2 ^ (j % 8))), (22, iN .u8 (sb s (j / 8) / 2 ^ (j % 8) &&& 1)), (23, .bool false), (24, u14 24), (25, u14 25), (26, u14 26)] : List (Nat × Value)).find? (·.1 == ii)).elim undef (·.2), by kernel_rfl, (by rw [← pwr_nil a s j hbit]; exact h20)⟩
  · rintro _ w25 ⟨u14, rfl, h26⟩
    refine wp_seq ?_
    refine wp_seq ?_
    -- region 3
    refine wl_region ?_
    refine wl_val (dnv 0) (by kernel_rfl) (by kernel_rfl) ?_
    refine wl_val (.bool false) (by kernel_rfl) (run_geq0 (k := .i64) (a := -1) (b := 0) (by kernel_rfl) (by kernel_rfl) false (by decide)) ?_
    refine wl_nil ?_
    refine then_at (F := ⟨(rarr a :: .string s :: pt q1 :: un :: pt q4 :: pt q9 :: dnv 0 :: rarr 1 :: dnv 0 :: .bool false :: u14 10 :: u14 11 :: u14 12 :: u14 13 :: u14 14 :: u14 15 :: u14 16 :: u14 17 :: u14 18 :: u14 19 :: u14 20 :: u14 21 :: u14 22 :: u14 23 :: u14 24 :: u14 25 :: u14 26 :: List.replicate 1 un).toArray, []⟩) (by kernel_rfl) ?_
    refine wp_cond_false (by kernel_rfl) ?_
    refine wp_exit ?_
    repeat first | refine then_exit ?_ | refine block_exit ?_ | refine block_exit_ne (by decide) ?_
    have h27 : HA w [(q9, 32, rl (pwr a s 0)), (q4, 32, rl 0), (q1, 32, rl a)] w25 := h26
    refine then_at (F := ⟨(rarr a :: .string s :: pt q1 :: un :: pt q4 :: pt q9 :: dnv 0 :: rarr 1 :: dnv 0 :: .bool false :: u14 10 :: u14 11 :: u14 12 :: u14 13 :: u14 14 :: u14 15 :: u14 16 :: u14 17 :: u14 18 :: u14 19 :: u14 20 :: u14 21 :: u14 22 :: u14 23 :: u14 24 :: u14 25 :: u14 26 :: List.replicate 1 un).toArray, []⟩) (by kernel_rfl) ?_
    refine wp_seq ?_
    -- region 8
    refine wl_region ?_
    refine wl_load h27 0 rfl (by kernel_rfl) (by kernel_rfl) Tryd.underlying32 rfl (info_rl _) ?_
    refine wl_fill (c' := rl (pwr a s 0)) h27 1 rfl (by kernel_rfl) (by kernel_rfl) (by kernel_rfl) (rl_sz _ _) (info_rl _) (one_rl _) ?_
    intro w28 (h29 : HA w [(q9, 32, rl (pwr a s 0)), (q4, 32, rl (pwr a s 0)), (q1, 32, rl a)] w28)
    refine wl_nil ?_
    refine then_at (F := ⟨(rarr a :: .string s :: pt q1 :: un :: pt q4 :: pt q9 :: dnv 0 :: rarr 1 :: dnv 0 :: .bool false :: u14 10 :: u14 11 :: u14 12 :: u14 13 :: u14 14 :: u14 15 :: u14 16 :: u14 17 :: u14 18 :: u14 19 :: u14 20 :: u14 21 :: u14 22 :: u14 23 :: u14 24 :: u14 25 :: u14 26 :: rarr (pwr a s 0) :: List.replicate 0 un).toArray, []⟩) (by kernel_rfl) ?_
    refine wp_ret ?_
    repeat first | refine then_ret ?_ | refine block_ret ?_
    exact bodyPost_ret (v := rarr (pwr a s 0)) (res_cell (p := 4) (by kernel_rfl) (by kernel_rfl) (h29.get 1 rfl) Tryd.underlying32 rfl (info_rl _)) rfl ⟨by rw [pwr_zero], h29.old⟩

theorem rpower_is (a E : Nat) (s : ByteArray) (ha : a < P) (hs : s.size = 32) (h : numS s = E) (w : World) : Calls Tryd.prog 88 #[rarr a, .string s] w fun e w' => e = .returned (rarr (a ^ E % P)) ∧ Below w.heap.size w w' := by
  have h1 := rpower_any a s ha hs w
  rw [h] at h1
  exact h1
theorem exp_inv : numS ⟨(endsL 235 127).toArray⟩ = P - 2 := by decide +kernel
theorem exp_root : numS ⟨(endsL 254 15).toArray⟩ = eighth := by decide +kernel
theorem exp_minus : numS ⟨(endsL 251 31).toArray⟩ = (P - 1) / 4 := by decide +kernel

set_option linter.unusedVariables false in
set_option maxRecDepth 100000 in
set_option maxHeartbeats 2000000 in
theorem rinv_any (a : Nat) (ha : a < P) (w : World) : Calls Tryd.prog 50 #[rarr a] w fun e w' => e = .returned (rarr (invE a)) ∧ Below w.heap.size w w' := by
  have H0 := HA.start w
  go_enter Tryd.func50, Tryd.ntmps50
  refine wp_seq ?_
  -- region 0
  refine wl_region ?_
  refine wl_make H0 32 (by kernel_rfl) (run_box32 (c := rl a) (by kernel_rfl)) ?_
  intro q1 w2 h3
  refine wl_make h3 32 (by kernel_rfl) run_alloc32 ?_
  intro q4 w5 h6
  refine wl_nil ?_
  refine then_at (F := ⟨(rarr a :: pt q1 :: pt q4 :: List.replicate 3 un).toArray, []⟩) (by kernel_rfl) ?_
  refine wp_seq ?_
  -- region 1
  refine wp_region_ghost (fun _ : Nat → Nat => (⟨(rarr a :: pt q1 :: pt q4 :: rarr a :: .string ⟨(endsL 235 127).toArray⟩ :: rarr (invE a) :: List.replicate 0 un).toArray, []⟩ : Act)) (GF w [(q4, 32, rl 0), (q1, 32, rl a)] 3 2 0 q4 32 (rl (invE a))) [rarr a, .string ⟨(endsL 235 127).toArray⟩, rarr (invE a), undef] (by kernel_rfl) (by kernel_rfl) (by kernel_rfl) (by kernel_rfl) (fun _ _ _ _ h => h) (fun d hd => GF.start h6.drew (hd 3 (by decide))) ?_ ?_
  · refine AllGhost.cons (gf_load2 1 (by decide) rfl (by decide) (fun _ => by kernel_rfl) (fun _ => by kernel_rfl) (fun _ => by kernel_rfl) Tryd.underlying32 rfl (info_rl _)) ?_
    refine AllGhost.cons (gf_call (v := .string ⟨(endsL 235 127).toArray⟩) (by decide) (fun _ => by kernel_rfl) (fun _ => by kernel_rfl) enter89 #[iN .u8 235, iN .u8 127] (fun _ => by kernel_rfl) (fun w' => rexp_any 235 127 w')) ?_
    refine AllGhost.cons (gf_call (v := rarr (invE a)) (by decide) (fun _ => by kernel_rfl) (fun _ => by kernel_rfl) enter88 #[rarr a, .string ⟨(endsL 235 127).toArray⟩] (fun _ => by kernel_rfl) (fun w' => rpower_is a _ _ ha rfl exp_inv w')) ?_
    refine AllGhost.cons (gf_fill rfl (rl_sz _ _) (fun _ => by kernel_rfl) (fun _ => by kernel_rfl) (fun _ => by kernel_rfl) (fun _ => by kernel_rfl) (info_rl _) (one_rl _) (by decide) (by kernel_rfl)) ?_
    exact AllGhost.nil
  intro _ w7 g8
  have h9 : HA w [(q4, 32, rl (invE a)), (q1, 32, rl a)] w7 := g8.held
  clear g8
  refine then_at (F := ⟨(rarr a :: pt q1 :: pt q4 :: rarr a :: .string ⟨(endsL 235 127).toArray⟩ :: rarr (invE a) :: List.replicate 0 un).toArray, []⟩) (by kernel_rfl) ?_
  refine wp_ret ?_
  repeat first | refine then_ret ?_ | refine block_ret ?_
  exact bodyPost_ret (v := rarr (invE a)) (res_cell (p := 2) (by kernel_rfl) (by kernel_rfl) (h9.get 0 rfl) Tryd.underlying32 rfl (info_rl _)) rfl ⟨rfl, h9.old⟩
end Go.Proofs.YtpaendmdcdeemaaDoor

namespace Go.Proofs.YtpaendmdcdeemaaDoor
open Go.RowKit Num

theorem two_root : 2 ^ ((P - 1) / 4) % P = rootI := by
  rw [← pm_eq P 256 2 ((P - 1) / 4) (by decide)]
  decide +kernel
theorem rpower_two (s : ByteArray) (hs : s.size = 32) (h : numS s = (P - 1) / 4) (w : World) : Calls Tryd.prog 88 #[rarr 2, .string s] w fun e w' => e = .returned (rarr rootI) ∧ Below w.heap.size w w' := by
  have h1 := rpower_is 2 _ s (by decide) hs h w
  rw [two_root] at h1
  exact h1
theorem run_ne32 {ρ : Operand → Value} {x y : Operand} (a b : Nat) {w : World} {dst : Option Tmp} {ty : TypeId} {pos : String} {aft : Array Edge} {gd : Option (Nat × Bool)} (ha : a < 65536 ^ 16) (hb : b < 65536 ^ 16) (hx : ρ x = rarr a) (hy : ρ y = rarr b) (t : Bool) (ht : decide (a = b) = t) :
    (execOp ρ ⟨dst, .binOp .neq 32 x y 32, ty, pos, aft, gd⟩).run Tryd.prog w = .ok (.value (.bool (!t))) w := by
  have h := eq32 w (digs 65536 16 a) (digs 65536 16 b) (digs_length _ _ _) (digs_length _ _ _)
  rw [decide_eq_decide.2 (digs_eq a b ha hb), ht] at h
  have h2 : (Op.equalIn Op.maxDepth 32 (.agg (cl .u32 (digs 65536 16 a))) (.agg (cl .u32 (digs 65536 16 b)))).run Tryd.prog w = .ok t w := h
  simp only [execOp, hx, hy, rarr, rl]
  simp [binOp, go_sem, Op.equal, h2]
end Go.Proofs.YtpaendmdcdeemaaDoor

namespace Go.Proofs.YtpaendmdcdeemaaDoor
open Go.RowKit Num

theorem Of_yes (s : ByteArray) {n : Nat} (h : ofP s = some n) (w : World) (V : Vars w) :
    Calls Tryd.prog 38 #[.string s] w fun e w' => e = .returned (.tuple #[arr n, .bool true]) ∧ Below w.heap.size w w' := by
  have h1 := Of_any s w V
  rw [h] at h1
  exact h1
theorem Of_no (s : ByteArray) (h : ofP s = none) (w : World) (V : Vars w) :
    Calls Tryd.prog 38 #[.string s] w fun e w' => e = .returned (.tuple #[arr 0, .bool false]) ∧ Below w.heap.size w w' := by
  have h1 := Of_any s w V
  rw [h] at h1
  exact h1


theorem rodd_yes (n : Nat) (h : n % 2 = 1) (w : World) : Calls Tryd.prog 53 #[rarr n] w fun e w' => e = .returned (.bool true) ∧ Below w.heap.size w w' := by
  have h1 := rodd_any n w
  rw [decide_eq_true h] at h1
  exact h1
theorem rodd_no (n : Nat) (h : n % 2 = 0) (w : World) : Calls Tryd.prog 53 #[rarr n] w fun e w' => e = .returned (.bool false) ∧ Below w.heap.size w w' := by
  have h1 := rodd_any n w
  rw [decide_eq_false (by omega)] at h1
  exact h1
theorem numS_lt (s : ByteArray) (h : s.size = 32) : numS s % 65536 ^ 16 = numS s := by
  have h1 := num_lt 256 (bts s) (bts_lt s)
  rw [bts_length, h] at h1
  exact Nat.mod_eq_of_lt (Nat.lt_of_lt_of_le h1 (by decide))
theorem rof_some (s : ByteArray) {n : Nat} (h : ofP s = some n) (w : World) : Calls Tryd.prog 45 #[.string s] w fun e w' => e = .returned (.tuple #[rarr n, .bool true]) ∧ Below w.heap.size w w' := by
  unfold ofP at h
  split at h
  · rename_i hc
    obtain rfl := Option.some.inj h
    have e := numS_lt s hc.1
    have h1 := rof_yes s hc.1 (by rw [e]; exact hc.2) w
    rw [e] at h1
    exact h1
  · cases h
theorem rof_none (s : ByteArray) (h : ofP s = none) (w : World) : Calls Tryd.prog 45 #[.string s] w fun e w' => e = .returned (.tuple #[rarr 0, .bool false]) ∧ Below w.heap.size w w' := by
  unfold ofP at h
  split at h
  · cases h
  · rename_i hc
    by_cases hl : s.size = 32
    · exact rof_no s hl (by rw [numS_lt s hl]; exact fun h => hc ⟨hl, h⟩) w
    · exact rof_len s hl w


set_option linter.unusedVariables false in
set_option maxRecDepth 100000 in
set_option maxHeartbeats 2000000 in
theorem rr_1o (a t0 t1 ri : Nat) (ha : a < P) (ht0 : t0 < P) (ht1 : t1 < P) (hri : ri < P) (KP : ∀ w, Calls Tryd.prog 88 #[rarr a, .string ⟨(endsL 254 15).toArray⟩] w fun e w' => e = .returned (rarr t0) ∧ Below w.heap.size w w') (K2 : ∀ w, Calls Tryd.prog 88 #[rarr 2, .string ⟨(endsL 251 31).toArray⟩] w fun e w' => e = .returned (rarr ri) ∧ Below w.heap.size w w') (KT : ∀ w, Calls Tryd.prog 90 #[rarr t0, rarr ri] w fun e w' => e = .returned (rarr t1) ∧ Below w.heap.size w w') (hq1 : mulP t0 t0 = a) (hodd : (t0) % 2 = 1) (w : World) : Calls Tryd.prog 86 #[rarr a] w fun e w' => e = .returned (.tuple #[rarr (negP (t0)), .bool true]) ∧ Below w.heap.size w w' := by
  have H0 := HA.start w
  go_enter Tryd.func86, Tryd.ntmps86
  refine wp_seq ?_
  -- region 0
  refine wl_region ?_
  refine wl_make H0 32 (by kernel_rfl) (run_box32 (c := rl a) (by kernel_rfl)) ?_
  intro q1 w2 h3
  refine wl_make h3 32 (by kernel_rfl) run_alloc32 ?_
  intro q4 w5 h6
  refine wl_val (.bool false) (by kernel_rfl) (by kernel_rfl) ?_
  refine wl_nil ?_
  refine then_at (F := ⟨(rarr a :: pt q1 :: pt q4 :: .bool false :: List.replicate 25 un).toArray, []⟩) (by kernel_rfl) ?_
  refine wp_seq ?_
  -- region 1
  obtain ⟨B7, eB7⟩ : ∃ B, B = w5.heap.size := ⟨_, rfl⟩
  refine wp_region_ghost (fun g : Nat → Nat => (⟨(rarr a :: pt q1 :: pt q4 :: .bool false :: pt (g 3) :: rarr a :: .string ⟨(endsL 254 15).toArray⟩ :: rarr t0 :: List.replicate 21 un).toArray, []⟩ : Act)) (GS w [(q4, 32, rl 0), (q1, 32, rl a)] B7 1 3 4 32 (rl 0) (fun j => rl ([t0].getD j t0))) [rarr a, .string ⟨(endsL 254 15).toArray⟩, rarr t0, .pointer (some ⟨0, 0, none⟩), undef] (by kernel_rfl) (by kernel_rfl) (by kernel_rfl) (by kernel_rfl) (fun _ _ _ _ h => h) (fun d hd => GS.start h6.drew eB7 (by decide) (fun _ _ => rfl) (fun j hj => hd j (Nat.lt_of_lt_of_le hj (by decide)))) ?_ ?_
  · refine AllGhost.cons (ghost_load 1 rfl (by decide) (fun _ => by kernel_rfl) (fun _ => by kernel_rfl) (fun _ => by kernel_rfl) Tryd.underlying32 rfl (info_rl _)) ?_
    refine AllGhost.cons (ghost_call (v := .string ⟨(endsL 254 15).toArray⟩) (by decide) (fun _ => by kernel_rfl) (fun _ => by kernel_rfl) enter89 #[iN .u8 254, iN .u8 15] (fun _ => by kernel_rfl) (fun w' h' => rexp_any 254 15 w')) ?_
    refine AllGhost.cons (ghost_call (v := rarr t0) (by decide) (fun _ => by kernel_rfl) (fun _ => by kernel_rfl) enter88 #[rarr a, .string ⟨(endsL 254 15).toArray⟩] (fun _ => by kernel_rfl) (fun w' h' => KP w')) ?_
    refine AllGhost.cons (ghost_make 0 (by decide) rfl (fun _ => by kernel_rfl) (fun _ _ => by kernel_rfl) (fun _ _ => run_alloc32)) ?_
    refine AllGhost.cons (ghost_fill 0 (by decide) rfl (fun _ => by kernel_rfl) (fun _ => by kernel_rfl) (fun _ => by kernel_rfl) (fun _ => by kernel_rfl) (info_rl _) (one_rl _) (by kernel_rfl)) ?_
    exact AllGhost.nil
  intro g w8 g9
  have h10 : HA w [(g 3, 32, rl t0), (q4, 32, rl 0), (q1, 32, rl a)] w8 := g9.one
  clear g9 eB7
  generalize g 3 = q11 at h10 ⊢
  clear g
  refine then_at (F := ⟨(rarr a :: pt q1 :: pt q4 :: .bool false :: pt q11 :: rarr a :: .string ⟨(endsL 254 15).toArray⟩ :: rarr t0 :: List.replicate 21 un).toArray, []⟩) (by kernel_rfl) ?_
  refine wp_seq ?_
  refine wp_seq ?_
  -- region 2
  refine wp_region_sure ⟨(rarr a :: pt q1 :: pt q4 :: .bool false :: pt q11 :: rarr a :: .string ⟨(endsL 254 15).toArray⟩ :: rarr t0 :: rarr t0 :: rarr t0 :: rarr (mulP t0 t0) :: rarr a :: .bool false :: List.replicate 16 un).toArray, []⟩ (HA w [(q11, 32, rl t0), (q4, 32, rl 0), (q1, 32, rl a)]) [rarr t0, rarr t0, rarr (mulP t0 t0), rarr a, .bool false] (by kernel_rfl) (by kernel_rfl) (by kernel_rfl) (by kernel_rfl) (fun _ _ _ h => h) h10.drew ?_ ?_
  · refine AllSure.cons (OpSure.take (v := rarr t0) (by kernel_rfl) (by kernel_rfl) (fun _ h => run_load_blk (by kernel_rfl) (h.get 0 rfl) Tryd.underlying32 rfl (info_rl _))) ?_
    refine AllSure.cons (OpSure.take (v := rarr t0) (by kernel_rfl) (by kernel_rfl) (fun _ h => run_load_blk (by kernel_rfl) (h.get 0 rfl) Tryd.underlying32 rfl (info_rl _))) ?_
    refine AllSure.cons (sure_call (v := rarr (mulP t0 t0)) (by kernel_rfl) (by kernel_rfl) enter90 HA.keep #[rarr t0, rarr t0] (by kernel_rfl) (fun w' h' => rmul_any t0 t0 (Nat.lt_trans ht0 (by decide)) (Nat.lt_trans ht0 (by decide)) w')) ?_
    refine AllSure.cons (OpSure.take (v := rarr a) (by kernel_rfl) (by kernel_rfl) (fun _ h => run_load_blk (by kernel_rfl) (h.get 2 rfl) Tryd.underlying32 rfl (info_rl _))) ?_
    refine AllSure.cons (OpSure.take (v := .bool false) (by kernel_rfl) (by kernel_rfl) (fun _ _ => (run_ne32 (mulP t0 t0) a (Nat.lt_trans (mulP_lt _ _) (by decide)) (Nat.lt_trans ha (by decide)) (by kernel_rfl) (by kernel_rfl) true (decide_eq_true hq1)))) ?_
    exact AllSure.nil
  intro w12 h13
  refine then_at (F := ⟨(rarr a :: pt q1 :: pt q4 :: .bool false :: pt q11 :: rarr a :: .string ⟨(endsL 254 15).toArray⟩ :: rarr t0 :: rarr t0 :: rarr t0 :: rarr (mulP t0 t0) :: rarr a :: .bool false :: List.replicate 16 un).toArray, []⟩) (by kernel_rfl) ?_
  refine wp_cond_false (by kernel_rfl) ?_
  refine wp_skip ?_
  refine then_at (F := ⟨(rarr a :: pt q1 :: pt q4 :: .bool false :: pt q11 :: rarr a :: .string ⟨(endsL 254 15).toArray⟩ :: rarr t0 :: rarr t0 :: rarr t0 :: rarr (mulP t0 t0) :: rarr a :: .bool false :: List.replicate 16 un).toArray, []⟩) (by kernel_rfl) ?_
  refine wp_seq ?_
  refine wp_seq ?_
  -- region 4
  refine wp_region_sure ⟨(rarr a :: pt q1 :: pt q4 :: .bool false :: pt q11 :: rarr a :: .string ⟨(endsL 254 15).toArray⟩ :: rarr t0 :: rarr t0 :: rarr t0 :: rarr (mulP t0 t0) :: rarr a :: .bool false :: un :: un :: un :: un :: un :: rarr t0 :: rarr t0 :: rarr (mulP t0 t0) :: rarr a :: .bool false :: List.replicate 6 un).toArray, []⟩ (HA w [(q11, 32, rl t0), (q4, 32, rl 0), (q1, 32, rl a)]) [rarr t0, rarr t0, rarr (mulP t0 t0), rarr a, .bool false] (by kernel_rfl) (by kernel_rfl) (by kernel_rfl) (by kernel_rfl) (fun _ _ _ h => h) h13.drew ?_ ?_
  · refine AllSure.cons (OpSure.take (v := rarr t0) (by kernel_rfl) (by kernel_rfl) (fun _ h => run_load_blk (by kernel_rfl) (h.get 0 rfl) Tryd.underlying32 rfl (info_rl _))) ?_
    refine AllSure.cons (OpSure.take (v := rarr t0) (by kernel_rfl) (by kernel_rfl) (fun _ h => run_load_blk (by kernel_rfl) (h.get 0 rfl) Tryd.underlying32 rfl (info_rl _))) ?_
    refine AllSure.cons (sure_call (v := rarr (mulP t0 t0)) (by kernel_rfl) (by kernel_rfl) enter90 HA.keep #[rarr t0, rarr t0] (by kernel_rfl) (fun w' h' => rmul_any t0 t0 (Nat.lt_trans ht0 (by decide)) (Nat.lt_trans ht0 (by decide)) w')) ?_
    refine AllSure.cons (OpSure.take (v := rarr a) (by kernel_rfl) (by kernel_rfl) (fun _ h => run_load_blk (by kernel_rfl) (h.get 2 rfl) Tryd.underlying32 rfl (info_rl _))) ?_
    refine AllSure.cons (OpSure.take (v := .bool false) (by kernel_rfl) (by kernel_rfl) (fun _ _ => (run_ne32 (mulP t0 t0) a (Nat.lt_trans (mulP_lt _ _) (by decide)) (Nat.lt_trans ha (by decide)) (by kernel_rfl) (by kernel_rfl) true (decide_eq_true hq1)))) ?_
    exact AllSure.nil
  intro w14 h15
  refine then_at (F := ⟨(rarr a :: pt q1 :: pt q4 :: .bool false :: pt q11 :: rarr a :: .string ⟨(endsL 254 15).toArray⟩ :: rarr t0 :: rarr t0 :: rarr t0 :: rarr (mulP t0 t0) :: rarr a :: .bool false :: un :: un :: un :: un :: un :: rarr t0 :: rarr t0 :: rarr (mulP t0 t0) :: rarr a :: .bool false :: List.replicate 6 un).toArray, []⟩) (by kernel_rfl) ?_
  refine wp_cond_false (by kernel_rfl) ?_
  refine wp_skip ?_
  refine then_at (F := ⟨(rarr a :: pt q1 :: pt q4 :: .bool false :: pt q11 :: rarr a :: .string ⟨(endsL 254 15).toArray⟩ :: rarr t0 :: rarr t0 :: rarr t0 :: rarr (mulP t0 t0) :: rarr a :: .bool false :: un :: un :: un :: un :: un :: rarr t0 :: rarr t0 :: rarr (mulP t0 t0) :: rarr a :: .bool false :: List.replicate 6 un).toArray, []⟩) (by kernel_rfl) ?_
  refine wp_seq ?_
  refine wp_seq ?_
  -- region 6
  refine wl_region ?_
  refine wl_load h15 0 rfl (by kernel_rfl) (by kernel_rfl) Tryd.underlying32 rfl (info_rl _) ?_
  refine wl_call (v := .bool true) h15 (by kernel_rfl) enter53 #[rarr t0] (by kernel_rfl) (rodd_yes t0 hodd w14) ?_
  intro w16 h17
  refine wl_nil ?_
  refine then_at (F := ⟨(rarr a :: pt q1 :: pt q4 :: .bool false :: pt q11 :: rarr a :: .string ⟨(endsL 254 15).toArray⟩ :: rarr t0 :: rarr t0 :: rarr t0 :: rarr (mulP t0 t0) :: rarr a :: .bool false :: un :: un :: un :: un :: un :: rarr t0 :: rarr t0 :: rarr (mulP t0 t0) :: rarr a :: .bool false :: un :: rarr t0 :: .bool true :: List.replicate 3 un).toArray, []⟩) (by kernel_rfl) ?_
  refine wp_cond_true (by kernel_rfl) ?_
  -- region 7
  refine wl_region ?_
  refine wl_load h17 0 rfl (by kernel_rfl) (by kernel_rfl) Tryd.underlying32 rfl (info_rl _) ?_
  refine wl_call (v := rarr (negP (t0))) h17 (by kernel_rfl) enter60 #[rarr t0] (by kernel_rfl) (rneg_any (t0) ht0 w16) ?_
  intro w18 h19
  refine wl_fill (c' := rl (negP (t0))) h19 0 rfl (by kernel_rfl) (by kernel_rfl) (by kernel_rfl) (rl_sz _ _) (info_rl _) (one_rl _) ?_
  intro w20 (h21 : HA w [(q11, 32, rl (negP (t0))), (q4, 32, rl 0), (q1, 32, rl a)] w20)
  refine wl_nil ?_
  refine then_at (F := ⟨(rarr a :: pt q1 :: pt q4 :: .bool false :: pt q11 :: rarr a :: .string ⟨(endsL 254 15).toArray⟩ :: rarr t0 :: rarr t0 :: rarr t0 :: rarr (mulP t0 t0) :: rarr a :: .bool false :: un :: un :: un :: un :: un :: rarr t0 :: rarr t0 :: rarr (mulP t0 t0) :: rarr a :: .bool false :: un :: rarr t0 :: .bool true :: rarr t0 :: rarr (negP (t0)) :: List.replicate 1 un).toArray, []⟩) (by kernel_rfl) ?_
  refine wp_seq ?_
  -- region 8
  refine wl_region ?_
  refine wl_load h21 0 rfl (by kernel_rfl) (by kernel_rfl) Tryd.underlying32 rfl (info_rl _) ?_
  refine wl_fill (c' := rl (negP (t0))) h21 1 rfl (by kernel_rfl) (by kernel_rfl) (by kernel_rfl) (rl_sz _ _) (info_rl _) (one_rl _) ?_
  intro w22 (h23 : HA w [(q11, 32, rl (negP (t0))), (q4, 32, rl (negP (t0))), (q1, 32, rl a)] w22)
  refine wl_val (.bool true) (by kernel_rfl) (by kernel_rfl) ?_
  refine wl_nil ?_
  refine then_at (F := ⟨(rarr a :: pt q1 :: pt q4 :: .bool true :: pt q11 :: rarr a :: .string ⟨(endsL 254 15).toArray⟩ :: rarr t0 :: rarr t0 :: rarr t0 :: rarr (mulP t0 t0) :: rarr a :: .bool false :: un :: un :: un :: un :: un :: rarr t0 :: rarr t0 :: rarr (mulP t0 t0) :: rarr a :: .bool false :: un :: rarr t0 :: .bool true :: rarr t0 :: rarr (negP (t0)) :: rarr (negP (t0)) :: List.replicate 0 un).toArray, []⟩) (by kernel_rfl) ?_
  refine wp_ret ?_
  repeat first | refine then_ret ?_ | refine block_ret ?_
  exact bodyPost_ret (v := .tuple #[rarr (negP (t0)), .bool true]) (res_cell_tmp (p := 2) (r := 3) (by kernel_rfl) (by kernel_rfl) (by kernel_rfl) (h23.get 1 rfl) Tryd.underlying32 rfl (info_rl _)) rfl ⟨rfl, h23.old⟩

set_option linter.unusedVariables false in
set_option maxRecDepth 100000 in
set_option maxHeartbeats 2000000 in
theorem rr_1e (a t0 t1 ri : Nat) (ha : a < P) (ht0 : t0 < P) (ht1 : t1 < P) (hri : ri < P) (KP : ∀ w, Calls Tryd.prog 88 #[rarr a, .string ⟨(endsL 254 15).toArray⟩] w fun e w' => e = .returned (rarr t0) ∧ Below w.heap.size w w') (K2 : ∀ w, Calls Tryd.prog 88 #[rarr 2, .string ⟨(endsL 251 31).toArray⟩] w fun e w' => e = .returned (rarr ri) ∧ Below w.heap.size w w') (KT : ∀ w, Calls Tryd.prog 90 #[rarr t0, rarr ri] w fun e w' => e = .returned (rarr t1) ∧ Below w.heap.size w w') (hq1 : mulP t0 t0 = a) (hodd : (t0) % 2 = 0) (w : World) : Calls Tryd.prog 86 #[rarr a] w fun e w' => e = .returned (.tuple #[rarr (t0), .bool true]) ∧ Below w.heap.size w w' := by
  have H0 := HA.start w
  go_enter Tryd.func86, Tryd.ntmps86
  refine wp_seq ?_
  -- region 0
  refine wl_region ?_
  refine wl_make H0 32 (by kernel_rfl) (run_box32 (c := rl a) (by kernel_rfl)) ?_
  intro q1 w2 h3
  refine wl_make h3 32 (by kernel_rfl) run_alloc32 ?_
  intro q4 w5 h6
  refine wl_val (.bool false) (by kernel_rfl) (by kernel_rfl) ?_
  refine wl_nil ?_
  refine then_at (F := ⟨(rarr a :: pt q1 :: pt q4 :: .bool false :: List.replicate 25 un).toArray, []⟩) (by kernel_rfl) ?_
  refine wp_seq ?_
  -- region 1
  obtain ⟨B7, eB7⟩ : ∃ B, B = w5.heap.size := ⟨_, rfl⟩
  refine wp_region_ghost (fun g : Nat → Nat => (⟨(rarr a :: pt q1 :: pt q4 :: .bool false :: pt (g 3) :: rarr a :: .string ⟨(endsL 254 15).toArray⟩ :: rarr t0 :: List.replicate 21 un).toArray, []⟩ : Act)) (GS w [(q4, 32, rl 0), (q1, 32, rl a)] B7 1 3 4 32 (rl 0) (fun j => rl ([t0].getD j t0))) [rarr a, .string ⟨(endsL 254 15).toArray⟩, rarr t0, .pointer (some ⟨0, 0, none⟩), undef] (by kernel_rfl) (by kernel_rfl) (by kernel_rfl) (by kernel_rfl) (fun _ _ _ _ h => h) (fun d hd => GS.start h6.drew eB7 (by decide) (fun _ _ => rfl) (fun j hj => hd j (Nat.lt_of_lt_of_le hj (by decide)))) ?_ ?_
  · refine AllGhost.cons (ghost_load 1 rfl (by decide) (fun _ => by kernel_rfl) (fun _ => by kernel_rfl) (fun _ => by kernel_rfl) Tryd.underlying32 rfl (info_rl _)) ?_
    refine AllGhost.cons (ghost_call (v := .string ⟨(endsL 254 15).toArray⟩) (by decide) (fun _ => by kernel_rfl) (fun _ => by kernel_rfl) enter89 #[iN .u8 254, iN .u8 15] (fun _ => by kernel_rfl) (fun w' h' => rexp_any 254 15 w')) ?_
    refine AllGhost.cons (ghost_call (v := rarr t0) (by decide) (fun _ => by kernel_rfl) (fun _ => by kernel_rfl) enter88 #[rarr a, .string ⟨(endsL 254 15).toArray⟩] (fun _ => by kernel_rfl) (fun w' h' => KP w')) ?_
    refine AllGhost.cons (ghost_make 0 (by decide) rfl (fun _ => by kernel_rfl) (fun _ _ => by kernel_rfl) (fun _ _ => run_alloc32)) ?_
    refine AllGhost.cons (ghost_fill 0 (by decide) rfl (fun _ => by kernel_rfl) (fun _ => by kernel_rfl) (fun _ => by kernel_rfl) (fun _ => by kernel_rfl) (info_rl _) (one_rl _) (by kernel_rfl)) ?_
    exact AllGhost.nil
  intro g w8 g9
  have h10 : HA w [(g 3, 32, rl t0), (q4, 32, rl 0), (q1, 32, rl a)] w8 := g9.one
  clear g9 eB7
  generalize g 3 = q11 at h10 ⊢
  clear g
  refine then_at (F := ⟨(rarr a :: pt q1 :: pt q4 :: .bool false :: pt q11 :: rarr a :: .string ⟨(endsL 254 15).toArray⟩ :: rarr t0 :: List.replicate 21 un).toArray, []⟩) (by kernel_rfl) ?_
  refine wp_seq ?_
  refine wp_seq ?_
  -- region 2
  refine wp_region_sure ⟨(rarr a :: pt q1 :: pt q4 :: .bool false :: pt q11 :: rarr a :: .string ⟨(endsL 254 15).toArray⟩ :: rarr t0 :: rarr t0 :: rarr t0 :: rarr (mulP t0 t0) :: rarr a :: .bool false :: List.replicate 16 un).toArray, []⟩ (HA w [(q11, 32, rl t0), (q4, 32, rl 0), (q1, 32, rl a)]) [rarr t0, rarr t0, rarr (mulP t0 t0), rarr a, .bool false] (by kernel_rfl) (by kernel_rfl) (by kernel_rfl) (by kernel_rfl) (fun _ _ _ h => h) h10.drew ?_ ?_
  · refine AllSure.cons (OpSure.take (v := rarr t0) (by kernel_rfl) (by kernel_rfl) (fun _ h => run_load_blk (by kernel_rfl) (h.get 0 rfl) Tryd.underlying32 rfl (info_rl _))) ?_
    refine AllSure.cons (OpSure.take (v := rarr t0) (by kernel_rfl) (by kernel_rfl) (fun _ h => run_load_blk (by kernel_rfl) (h.get 0 rfl) Tryd.underlying32 rfl (info_rl _))) ?_
    refine AllSure.cons (sure_call (v := rarr (mulP t0 t0)) (by kernel_rfl) (by kernel_rfl) enter90 HA.keep #[rarr t0, rarr t0] (by kernel_rfl) (fun w' h' => rmul_any t0 t0 (Nat.lt_trans ht0 (by decide)) (Nat.lt_trans ht0 (by decide)) w')) ?_
    refine AllSure.cons (OpSure.take (v := rarr a) (by kernel_rfl) (by kernel_rfl) (fun _ h => run_load_blk (by kernel_rfl) (h.get 2 rfl) Tryd.underlying32 rfl (info_rl _))) ?_
    refine AllSure.cons (OpSure.take (v := .bool false) (by kernel_rfl) (by kernel_rfl) (fun _ _ => (run_ne32 (mulP t0 t0) a (Nat.lt_trans (mulP_lt _ _) (by decide)) (Nat.lt_trans ha (by decide)) (by kernel_rfl) (by kernel_rfl) true (decide_eq_true hq1)))) ?_
    exact AllSure.nil
  intro w12 h13
  refine then_at (F := ⟨(rarr a :: pt q1 :: pt q4 :: .bool false :: pt q11 :: rarr a :: .string ⟨(endsL 254 15).toArray⟩ :: rarr t0 :: rarr t0 :: rarr t0 :: rarr (mulP t0 t0) :: rarr a :: .bool false :: List.replicate 16 un).toArray, []⟩) (by kernel_rfl) ?_
  refine wp_cond_false (by kernel_rfl) ?_
  refine wp_skip ?_
  refine then_at (F := ⟨(rarr a :: pt q1 :: pt q4 :: .bool false :: pt q11 :: rarr a :: .string ⟨(endsL 254 15).toArray⟩ :: rarr t0 :: rarr t0 :: rarr t0 :: rarr (mulP t0 t0) :: rarr a :: .bool false :: List.replicate 16 un).toArray, []⟩) (by kernel_rfl) ?_
  refine wp_seq ?_
  refine wp_seq ?_
  -- region 4
  refine wp_region_sure ⟨(rarr a :: pt q1 :: pt q4 :: .bool false :: pt q11 :: rarr a :: .string ⟨(endsL 254 15).toArray⟩ :: rarr t0 :: rarr t0 :: rarr t0 :: rarr (mulP t0 t0) :: rarr a :: .bool false :: un :: un :: un :: un :: un :: rarr t0 :: rarr t0 :: rarr (mulP t0 t0) :: rarr a :: .bool false :: List.replicate 6 un).toArray, []⟩ (HA w [(q11, 32, rl t0), (q4, 32, rl 0), (q1, 32, rl a)]) [rarr t0, rarr t0, rarr (mulP t0 t0), rarr a, .bool false] (by kernel_rfl) (by kernel_rfl) (by kernel_rfl) (by kernel_rfl) (fun _ _ _ h => h) h13.drew ?_ ?_
  · refine AllSure.cons (OpSure.take (v := rarr t0) (by kernel_rfl) (by kernel_rfl) (fun _ h => run_load_blk (by kernel_rfl) (h.get 0 rfl) Tryd.underlying32 rfl (info_rl _))) ?_
    refine AllSure.cons (OpSure.take (v := rarr t0) (by kernel_rfl) (by kernel_rfl) (fun _ h => run_load_blk (by kernel_rfl) (h.get 0 rfl) Tryd.underlying32 rfl (info_rl _))) ?_
    refine AllSure.cons (sure_call (v := rarr (mulP t0 t0)) (by kernel_rfl) (by kernel_rfl) enter90 HA.keep #[rarr t0, rarr t0] (by kernel_rfl) (fun w' h' => rmul_any t0 t0 (Nat.lt_trans ht0 (by decide)) (Nat.lt_trans ht0 (by decide)) w')) ?_
    refine AllSure.cons (OpSure.take (v := rarr a) (by kernel_rfl) (by kernel_rfl) (fun _ h => run_load_blk (by kernel_rfl) (h.get 2 rfl) Tryd.underlying32 rfl (info_rl _))) ?_
    refine AllSure.cons (OpSure.take (v := .bool false) (by kernel_rfl) (by kernel_rfl) (fun _ _ => (run_ne32 (mulP t0 t0) a (Nat.lt_trans (mulP_lt _ _) (by decide)) (Nat.lt_trans ha (by decide)) (by kernel_rfl) (by kernel_rfl) true (decide_eq_true hq1)))) ?_
    exact AllSure.nil
  intro w14 h15
  refine then_at (F := ⟨(rarr a :: pt q1 :: pt q4 :: .bool false :: pt q11 :: rarr a :: .string ⟨(endsL 254 15).toArray⟩ :: rarr t0 :: rarr t0 :: rarr t0 :: rarr (mulP t0 t0) :: rarr a :: .bool false :: un :: un :: un :: un :: un :: rarr t0 :: rarr t0 :: rarr (mulP t0 t0) :: rarr a :: .bool false :: List.replicate 6 un).toArray, []⟩) (by kernel_rfl) ?_
  refine wp_cond_false (by kernel_rfl) ?_
  refine wp_skip ?_
  refine then_at (F := ⟨(rarr a :: pt q1 :: pt q4 :: .bool false :: pt q11 :: rarr a :: .string ⟨(endsL 254 15).toArray⟩ :: rarr t0 :: rarr t0 :: rarr t0 :: rarr (mulP t0 t0) :: rarr a :: .bool false :: un :: un :: un :: un :: un :: rarr t0 :: rarr t0 :: rarr (mulP t0 t0) :: rarr a :: .bool false :: List.replicate 6 un).toArray, []⟩) (by kernel_rfl) ?_
  refine wp_seq ?_
  refine wp_seq ?_
  -- region 6
  refine wl_region ?_
  refine wl_load h15 0 rfl (by kernel_rfl) (by kernel_rfl) Tryd.underlying32 rfl (info_rl _) ?_
  refine wl_call (v := .bool false) h15 (by kernel_rfl) enter53 #[rarr t0] (by kernel_rfl) (rodd_no t0 hodd w14) ?_
  intro w16 h17
  refine wl_nil ?_
  refine then_at (F := ⟨(rarr a :: pt q1 :: pt q4 :: .bool false :: pt q11 :: rarr a :: .string ⟨(endsL 254 15).toArray⟩ :: rarr t0 :: rarr t0 :: rarr t0 :: rarr (mulP t0 t0) :: rarr a :: .bool false :: un :: un :: un :: un :: un :: rarr t0 :: rarr t0 :: rarr (mulP t0 t0) :: rarr a :: .bool false :: un :: rarr t0 :: .bool false :: List.replicate 3 un).toArray, []⟩) (by kernel_rfl) ?_
  refine wp_cond_false (by kernel_rfl) ?_
  refine wp_skip ?_
  refine then_at (F := ⟨(rarr a :: pt q1 :: pt q4 :: .bool false :: pt q11 :: rarr a :: .string ⟨(endsL 254 15).toArray⟩ :: rarr t0 :: rarr t0 :: rarr t0 :: rarr (mulP t0 t0) :: rarr a :: .bool false :: un :: un :: un :: un :: un :: rarr t0 :: rarr t0 :: rarr (mulP t0 t0) :: rarr a :: .bool false :: un :: rarr t0 :: .bool false :: List.replicate 3 un).toArray, []⟩) (by kernel_rfl) ?_
  refine wp_seq ?_
  -- region 8
  refine wl_region ?_
  refine wl_load h17 0 rfl (by kernel_rfl) (by kernel_rfl) Tryd.underlying32 rfl (info_rl _) ?_
  refine wl_fill (c' := rl t0) h17 1 rfl (by kernel_rfl) (by kernel_rfl) (by kernel_rfl) (rl_sz _ _) (info_rl _) (one_rl _) ?_
  intro w18 (h19 : HA w [(q11, 32, rl t0), (q4, 32, rl t0), (q1, 32, rl a)] w18)
  refine wl_val (.bool true) (by kernel_rfl) (by kernel_rfl) ?_
  refine wl_nil ?_
  refine then_at (F := ⟨(rarr a :: pt q1 :: pt q4 :: .bool true :: pt q11 :: rarr a :: .string ⟨(endsL 254 15).toArray⟩ :: rarr t0 :: rarr t0 :: rarr t0 :: rarr (mulP t0 t0) :: rarr a :: .bool false :: un :: un :: un :: un :: un :: rarr t0 :: rarr t0 :: rarr (mulP t0 t0) :: rarr a :: .bool false :: un :: rarr t0 :: .bool false :: un :: un :: rarr t0 :: List.replicate 0 un).toArray, []⟩) (by kernel_rfl) ?_
  refine wp_ret ?_
  repeat first | refine then_ret ?_ | refine block_ret ?_
  exact bodyPost_ret (v := .tuple #[rarr (t0), .bool true]) (res_cell_tmp (p := 2) (r := 3) (by kernel_rfl) (by kernel_rfl) (by kernel_rfl) (h19.get 1 rfl) Tryd.underlying32 rfl (info_rl _)) rfl ⟨rfl, h19.old⟩

set_option linter.unusedVariables false in
set_option maxRecDepth 100000 in
set_option maxHeartbeats 2000000 in
theorem rr_2o (a t0 t1 ri : Nat) (ha : a < P) (ht0 : t0 < P) (ht1 : t1 < P) (hri : ri < P) (KP : ∀ w, Calls Tryd.prog 88 #[rarr a, .string ⟨(endsL 254 15).toArray⟩] w fun e w' => e = .returned (rarr t0) ∧ Below w.heap.size w w') (K2 : ∀ w, Calls Tryd.prog 88 #[rarr 2, .string ⟨(endsL 251 31).toArray⟩] w fun e w' => e = .returned (rarr ri) ∧ Below w.heap.size w w') (KT : ∀ w, Calls Tryd.prog 90 #[rarr t0, rarr ri] w fun e w' => e = .returned (rarr t1) ∧ Below w.heap.size w w') (hq1 : ¬ mulP t0 t0 = a) (hq2 : mulP t1 t1 = a) (hodd : (t1) % 2 = 1) (w : World) : Calls Tryd.prog 86 #[rarr a] w fun e w' => e = .returned (.tuple #[rarr (negP (t1)), .bool true]) ∧ Below w.heap.size w w' := by
  have H0 := HA.start w
  go_enter Tryd.func86, Tryd.ntmps86
  refine wp_seq ?_
  -- region 0
  refine wl_region ?_
  refine wl_make H0 32 (by kernel_rfl) (run_box32 (c := rl a) (by kernel_rfl)) ?_
  intro q1 w2 h3
  refine wl_make h3 32 (by kernel_rfl) run_alloc32 ?_
  intro q4 w5 h6
  refine wl_val (.bool false) (by kernel_rfl) (by kernel_rfl) ?_
  refine wl_nil ?_
  refine then_at (F := ⟨(rarr a :: pt q1 :: pt q4 :: .bool false :: List.replicate 25 un).toArray, []⟩) (by kernel_rfl) ?_
  refine wp_seq ?_
  -- region 1
  obtain ⟨B7, eB7⟩ : ∃ B, B = w5.heap.size := ⟨_, rfl⟩
  refine wp_region_ghost (fun g : Nat → Nat => (⟨(rarr a :: pt q1 :: pt q4 :: .bool false :: pt (g 3) :: rarr a :: .string ⟨(endsL 254 15).toArray⟩ :: rarr t0 :: List.replicate 21 un).toArray, []⟩ : Act)) (GS w [(q4, 32, rl 0), (q1, 32, rl a)] B7 1 3 4 32 (rl 0) (fun j => rl ([t0].getD j t0))) [rarr a, .string ⟨(endsL 254 15).toArray⟩, rarr t0, .pointer (some ⟨0, 0, none⟩), undef] (by kernel_rfl) (by kernel_rfl) (by kernel_rfl) (by kernel_rfl) (fun _ _ _ _ h => h) (fun d hd => GS.start h6.drew eB7 (by decide) (fun _ _ => rfl) (fun j hj => hd j (Nat.lt_of_lt_of_le hj (by decide)))) ?_ ?_
  · refine AllGhost.cons (ghost_load 1 rfl (by decide) (fun _ => by kernel_rfl) (fun _ => by kernel_rfl) (fun _ => by kernel_rfl) Tryd.underlying32 rfl (info_rl _)) ?_
    refine AllGhost.cons (ghost_call (v := .string ⟨(endsL 254 15).toArray⟩) (by decide) (fun _ => by kernel_rfl) (fun _ => by kernel_rfl) enter89 #[iN .u8 254, iN .u8 15] (fun _ => by kernel_rfl) (fun w' h' => rexp_any 254 15 w')) ?_
    refine AllGhost.cons (ghost_call (v := rarr t0) (by decide) (fun _ => by kernel_rfl) (fun _ => by kernel_rfl) enter88 #[rarr a, .string ⟨(endsL 254 15).toArray⟩] (fun _ => by kernel_rfl) (fun w' h' => KP w')) ?_
    refine AllGhost.cons (ghost_make 0 (by decide) rfl (fun _ => by kernel_rfl) (fun _ _ => by kernel_rfl) (fun _ _ => run_alloc32)) ?_
    refine AllGhost.cons (ghost_fill 0 (by decide) rfl (fun _ => by kernel_rfl) (fun _ => by kernel_rfl) (fun _ => by kernel_rfl) (fun _ => by kernel_rfl) (info_rl _) (one_rl _) (by kernel_rfl)) ?_
    exact AllGhost.nil
  intro g w8 g9
  have h10 : HA w [(g 3, 32, rl t0), (q4, 32, rl 0), (q1, 32, rl a)] w8 := g9.one
  clear g9 eB7
  generalize g 3 = q11 at h10 ⊢
  clear g
  refine then_at (F := ⟨(rarr a :: pt q1 :: pt q4 :: .bool false :: pt q11 :: rarr a :: .string ⟨(endsL 254 15).toArray⟩ :: rarr t0 :: List.replicate 21 un).toArray, []⟩) (by kernel_rfl) ?_
  refine wp_seq ?_
  refine wp_seq ?_
  -- region 2
  refine wp_region_sure ⟨(rarr a :: pt q1 :: pt q4 :: .bool false :: pt q11 :: rarr a :: .string ⟨(endsL 254 15).toArray⟩ :: rarr t0 :: rarr t0 :: rarr t0 :: rarr (mulP t0 t0) :: rarr a :: .bool true :: List.replicate 16 un).toArray, []⟩ (HA w [(q11, 32, rl t0), (q4, 32, rl 0), (q1, 32, rl a)]) [rarr t0, rarr t0, rarr (mulP t0 t0), rarr a, .bool true] (by kernel_rfl) (by kernel_rfl) (by kernel_rfl) (by kernel_rfl) (fun _ _ _ h => h) h10.drew ?_ ?_
  · refine AllSure.cons (OpSure.take (v := rarr t0) (by kernel_rfl) (by kernel_rfl) (fun _ h => run_load_blk (by kernel_rfl) (h.get 0 rfl) Tryd.underlying32 rfl (info_rl _))) ?_
    refine AllSure.cons (OpSure.take (v := rarr t0) (by kernel_rfl) (by kernel_rfl) (fun _ h => run_load_blk (by kernel_rfl) (h.get 0 rfl) Tryd.underlying32 rfl (info_rl _))) ?_
    refine AllSure.cons (sure_call (v := rarr (mulP t0 t0)) (by kernel_rfl) (by kernel_rfl) enter90 HA.keep #[rarr t0, rarr t0] (by kernel_rfl) (fun w' h' => rmul_any t0 t0 (Nat.lt_trans ht0 (by decide)) (Nat.lt_trans ht0 (by decide)) w')) ?_
    refine AllSure.cons (OpSure.take (v := rarr a) (by kernel_rfl) (by kernel_rfl) (fun _ h => run_load_blk (by kernel_rfl) (h.get 2 rfl) Tryd.underlying32 rfl (info_rl _))) ?_
    refine AllSure.cons (OpSure.take (v := .bool true) (by kernel_rfl) (by kernel_rfl) (fun _ _ => (run_ne32 (mulP t0 t0) a (Nat.lt_trans (mulP_lt _ _) (by decide)) (Nat.lt_trans ha (by decide)) (by kernel_rfl) (by kernel_rfl) false (decide_eq_false hq1)))) ?_
    exact AllSure.nil
  intro w12 h13
  refine then_at (F := ⟨(rarr a :: pt q1 :: pt q4 :: .bool false :: pt q11 :: rarr a :: .string ⟨(endsL 254 15).toArray⟩ :: rarr t0 :: rarr t0 :: rarr t0 :: rarr (mulP t0 t0) :: rarr a :: .bool true :: List.replicate 16 un).toArray, []⟩) (by kernel_rfl) ?_
  refine wp_cond_true (by kernel_rfl) ?_
  -- region 3
  refine wp_region_ghost (fun _ : Nat → Nat => (⟨(rarr a :: pt q1 :: pt q4 :: .bool false :: pt q11 :: rarr a :: .string ⟨(endsL 254 15).toArray⟩ :: rarr t0 :: rarr t0 :: rarr t0 :: rarr (mulP t0 t0) :: rarr a :: .bool true :: rarr t0 :: rarr 2 :: .string ⟨(endsL 251 31).toArray⟩ :: rarr ri :: rarr t1 :: List.replicate 11 un).toArray, []⟩ : Act)) (GF w [(q11, 32, rl t0), (q4, 32, rl 0), (q1, 32, rl a)] 5 0 0 q11 32 (rl t1)) [rarr t0, rarr 2, .string ⟨(endsL 251 31).toArray⟩, rarr ri, rarr t1, undef] (by kernel_rfl) (by kernel_rfl) (by kernel_rfl) (by kernel_rfl) (fun _ _ _ _ h => h) (fun d hd => GF.start h13.drew (hd 5 (by decide))) ?_ ?_
  · refine AllGhost.cons (gf_load 0 rfl (by decide) (fun _ => by kernel_rfl) (fun _ => by kernel_rfl) (fun _ => by kernel_rfl) Tryd.underlying32 rfl (info_rl _)) ?_
    refine AllGhost.cons (gf_call (v := rarr 2) (by decide) (fun _ => by kernel_rfl) (fun _ => by kernel_rfl) enter97 #[iN .u32 2] (fun _ => by kernel_rfl) (fun w' => rsmall_any 2 (by decide) w')) ?_
    refine AllGhost.cons (gf_call (v := .string ⟨(endsL 251 31).toArray⟩) (by decide) (fun _ => by kernel_rfl) (fun _ => by kernel_rfl) enter89 #[iN .u8 251, iN .u8 31] (fun _ => by kernel_rfl) (fun w' => rexp_any 251 31 w')) ?_
    refine AllGhost.cons (gf_call (v := rarr ri) (by decide) (fun _ => by kernel_rfl) (fun _ => by kernel_rfl) enter88 #[rarr 2, .string ⟨(endsL 251 31).toArray⟩] (fun _ => by kernel_rfl) (fun w' => K2 w')) ?_
    refine AllGhost.cons (gf_call (v := rarr t1) (by decide) (fun _ => by kernel_rfl) (fun _ => by kernel_rfl) enter90 #[rarr t0, rarr ri] (fun _ => by kernel_rfl) (fun w' => KT w')) ?_
    refine AllGhost.cons (gf_fill rfl (rl_sz _ _) (fun _ => by kernel_rfl) (fun _ => by kernel_rfl) (fun _ => by kernel_rfl) (fun _ => by kernel_rfl) (info_rl _) (one_rl _) (by decide) (by kernel_rfl)) ?_
    exact AllGhost.nil
  intro _ w14 g15
  have h16 : HA w [(q11, 32, rl t1), (q4, 32, rl 0), (q1, 32, rl a)] w14 := g15.held
  clear g15
  refine then_at (F := ⟨(rarr a :: pt q1 :: pt q4 :: .bool false :: pt q11 :: rarr a :: .string ⟨(endsL 254 15).toArray⟩ :: rarr t0 :: rarr t0 :: rarr t0 :: rarr (mulP t0 t0) :: rarr a :: .bool true :: rarr t0 :: rarr 2 :: .string ⟨(endsL 251 31).toArray⟩ :: rarr ri :: rarr t1 :: List.replicate 11 un).toArray, []⟩) (by kernel_rfl) ?_
  refine wp_seq ?_
  refine wp_seq ?_
  -- region 4
  refine wp_region_sure ⟨(rarr a :: pt q1 :: pt q4 :: .bool false :: pt q11 :: rarr a :: .string ⟨(endsL 254 15).toArray⟩ :: rarr t0 :: rarr t0 :: rarr t0 :: rarr (mulP t0 t0) :: rarr a :: .bool true :: rarr t0 :: rarr 2 :: .string ⟨(endsL 251 31).toArray⟩ :: rarr ri :: rarr t1 :: rarr t1 :: rarr t1 :: rarr (mulP t1 t1) :: rarr a :: .bool false :: List.replicate 6 un).toArray, []⟩ (HA w [(q11, 32, rl t1), (q4, 32, rl 0), (q1, 32, rl a)]) [rarr t1, rarr t1, rarr (mulP t1 t1), rarr a, .bool false] (by kernel_rfl) (by kernel_rfl) (by kernel_rfl) (by kernel_rfl) (fun _ _ _ h => h) h16.drew ?_ ?_
  · refine AllSure.cons (OpSure.take (v := rarr t1) (by kernel_rfl) (by kernel_rfl) (fun _ h => run_load_blk (by kernel_rfl) (h.get 0 rfl) Tryd.underlying32 rfl (info_rl _))) ?_
    refine AllSure.cons (OpSure.take (v := rarr t1) (by kernel_rfl) (by kernel_rfl) (fun _ h => run_load_blk (by kernel_rfl) (h.get 0 rfl) Tryd.underlying32 rfl (info_rl _))) ?_
    refine AllSure.cons (sure_call (v := rarr (mulP t1 t1)) (by kernel_rfl) (by kernel_rfl) enter90 HA.keep #[rarr t1, rarr t1] (by kernel_rfl) (fun w' h' => rmul_any t1 t1 (Nat.lt_trans ht1 (by decide)) (Nat.lt_trans ht1 (by decide)) w')) ?_
    refine AllSure.cons (OpSure.take (v := rarr a) (by kernel_rfl) (by kernel_rfl) (fun _ h => run_load_blk (by kernel_rfl) (h.get 2 rfl) Tryd.underlying32 rfl (info_rl _))) ?_
    refine AllSure.cons (OpSure.take (v := .bool false) (by kernel_rfl) (by kernel_rfl) (fun _ _ => (run_ne32 (mulP t1 t1) a (Nat.lt_trans (mulP_lt _ _) (by decide)) (Nat.lt_trans ha (by decide)) (by kernel_rfl) (by kernel_rfl) true (decide_eq_true hq2)))) ?_
    exact AllSure.nil
  intro w17 h18
  refine then_at (F := ⟨(rarr a :: pt q1 :: pt q4 :: .bool false :: pt q11 :: rarr a :: .string ⟨(endsL 254 15).toArray⟩ :: rarr t0 :: rarr t0 :: rarr t0 :: rarr (mulP t0 t0) :: rarr a :: .bool true :: rarr t0 :: rarr 2 :: .string ⟨(endsL 251 31).toArray⟩ :: rarr ri :: rarr t1 :: rarr t1 :: rarr t1 :: rarr (mulP t1 t1) :: rarr a :: .bool false :: List.replicate 6 un).toArray, []⟩) (by kernel_rfl) ?_
  refine wp_cond_false (by kernel_rfl) ?_
  refine wp_skip ?_
  refine then_at (F := ⟨(rarr a :: pt q1 :: pt q4 :: .bool false :: pt q11 :: rarr a :: .string ⟨(endsL 254 15).toArray⟩ :: rarr t0 :: rarr t0 :: rarr t0 :: rarr (mulP t0 t0) :: rarr a :: .bool true :: rarr t0 :: rarr 2 :: .string ⟨(endsL 251 31).toArray⟩ :: rarr ri :: rarr t1 :: rarr t1 :: rarr t1 :: rarr (mulP t1 t1) :: rarr a :: .bool false :: List.replicate 6 un).toArray, []⟩) (by kernel_rfl) ?_
  refine wp_seq ?_
  refine wp_seq ?_
  -- region 6
  refine wl_region ?_
  refine wl_load h18 0 rfl (by kernel_rfl) (by kernel_rfl) Tryd.underlying32 rfl (info_rl _) ?_
  refine wl_call (v := .bool true) h18 (by kernel_rfl) enter53 #[rarr t1] (by kernel_rfl) (rodd_yes t1 hodd w17) ?_
  intro w19 h20
  refine wl_nil ?_
  refine then_at (F := ⟨(rarr a :: pt q1 :: pt q4 :: .bool false :: pt q11 :: rarr a :: .string ⟨(endsL 254 15).toArray⟩ :: rarr t0 :: rarr t0 :: rarr t0 :: rarr (mulP t0 t0) :: rarr a :: .bool true :: rarr t0 :: rarr 2 :: .string ⟨(endsL 251 31).toArray⟩ :: rarr ri :: rarr t1 :: rarr t1 :: rarr t1 :: rarr (mulP t1 t1) :: rarr a :: .bool false :: un :: rarr t1 :: .bool true :: List.replicate 3 un).toArray, []⟩) (by kernel_rfl) ?_
  refine wp_cond_true (by kernel_rfl) ?_
  -- region 7
  refine wl_region ?_
  refine wl_load h20 0 rfl (by kernel_rfl) (by kernel_rfl) Tryd.underlying32 rfl (info_rl _) ?_
  refine wl_call (v := rarr (negP (t1))) h20 (by kernel_rfl) enter60 #[rarr t1] (by kernel_rfl) (rneg_any (t1) ht1 w19) ?_
  intro w21 h22
  refine wl_fill (c' := rl (negP (t1))) h22 0 rfl (by kernel_rfl) (by kernel_rfl) (by kernel_rfl) (rl_sz _ _) (info_rl _) (one_rl _) ?_
  intro w23 (h24 : HA w [(q11, 32, rl (negP (t1))), (q4, 32, rl 0), (q1, 32, rl a)] w23)
  refine wl_nil ?_
  refine then_at (F := ⟨(rarr a :: pt q1 :: pt q4 :: .bool false :: pt q11 :: rarr a :: .string ⟨(endsL 254 15).toArray⟩ :: rarr t0 :: rarr t0 :: rarr t0 :: rarr (mulP t0 t0) :: rarr a :: .bool true :: rarr t0 :: rarr 2 :: .string ⟨(endsL 251 31).toArray⟩ :: rarr ri :: rarr t1 :: rarr t1 :: rarr t1 :: rarr (mulP t1 t1) :: rarr a :: .bool false :: un :: rarr t1 :: .bool true :: rarr t1 :: rarr (negP (t1)) :: List.replicate 1 un).toArray, []⟩) (by kernel_rfl) ?_
  refine wp_seq ?_
  -- region 8
  refine wl_region ?_
  refine wl_load h24 0 rfl (by kernel_rfl) (by kernel_rfl) Tryd.underlying32 rfl (info_rl _) ?_
  refine wl_fill (c' := rl (negP (t1))) h24 1 rfl (by kernel_rfl) (by kernel_rfl) (by kernel_rfl) (rl_sz _ _) (info_rl _) (one_rl _) ?_
  intro w25 (h26 : HA w [(q11, 32, rl (negP (t1))), (q4, 32, rl (negP (t1))), (q1, 32, rl a)] w25)
  refine wl_val (.bool true) (by kernel_rfl) (by kernel_rfl) ?_
  refine wl_nil ?_
  refine then_at (F := ⟨(rarr a :: pt q1 :: pt q4 :: .bool true :: pt q11 :: rarr a :: .string ⟨(endsL 254 15).toArray⟩ :: rarr t0 :: rarr t0 :: rarr t0 :: rarr (mulP t0 t0) :: rarr a :: .bool true :: rarr t0 :: rarr 2 :: .string ⟨(endsL 251 31).toArray⟩ :: rarr ri :: rarr t1 :: rarr t1 :: rarr t1 :: rarr (mulP t1 t1) :: rarr a :: .bool false :: un :: rarr t1 :: .bool true :: rarr t1 :: rarr (negP (t1)) :: rarr (negP (t1)) :: List.replicate 0 un).toArray, []⟩) (by kernel_rfl) ?_
  refine wp_ret ?_
  repeat first | refine then_ret ?_ | refine block_ret ?_
  exact bodyPost_ret (v := .tuple #[rarr (negP (t1)), .bool true]) (res_cell_tmp (p := 2) (r := 3) (by kernel_rfl) (by kernel_rfl) (by kernel_rfl) (h26.get 1 rfl) Tryd.underlying32 rfl (info_rl _)) rfl ⟨rfl, h26.old⟩

set_option linter.unusedVariables false in
set_option maxRecDepth 100000 in
set_option maxHeartbeats 2000000 in
theorem rr_2e (a t0 t1 ri : Nat) (ha : a < P) (ht0 : t0 < P) (ht1 : t1 < P) (hri : ri < P) (KP : ∀ w, Calls Tryd.prog 88 #[rarr a, .string ⟨(endsL 254 15).toArray⟩] w fun e w' => e = .returned (rarr t0) ∧ Below w.heap.size w w') (K2 : ∀ w, Calls Tryd.prog 88 #[rarr 2, .string ⟨(endsL 251 31).toArray⟩] w fun e w' => e = .returned (rarr ri) ∧ Below w.heap.size w w') (KT : ∀ w, Calls Tryd.prog 90 #[rarr t0, rarr ri] w fun e w' => e = .returned (rarr t1) ∧ Below w.heap.size w w') (hq1 : ¬ mulP t0 t0 = a) (hq2 : mulP t1 t1 = a) (hodd : (t1) % 2 = 0) (w : World) : Calls Tryd.prog 86 #[rarr a] w fun e w' => e = .returned (.tuple #[rarr (t1), .bool true]) ∧ Below w.heap.size w w' := by
  have H0 := HA.start w
  go_enter Tryd.func86, Tryd.ntmps86
  refine wp_seq ?_
  -- region 0
  refine wl_region ?_
  refine wl_make H0 32 (by kernel_rfl) (run_box32 (c := rl a) (by kernel_rfl)) ?_
  intro q1 w2 h3
  refine wl_make h3 32 (by kernel_rfl) run_alloc32 ?_
  intro q4 w5 h6
  refine wl_val (.bool false) (by kernel_rfl) (by kernel_rfl) ?_
  refine wl_nil ?_
  refine then_at (F := ⟨(rarr a :: pt q1 :: pt q4 :: .bool false :: List.replicate 25 un).toArray, []⟩) (by kernel_rfl) ?_
  refine wp_seq ?_
  -- region 1
  obtain ⟨B7, eB7⟩ : ∃ B, B = w5.heap.size := ⟨_, rfl⟩
  refine wp_region_ghost (fun g : Nat → Nat => (⟨(rarr a :: pt q1 :: pt q4 :: .bool false :: pt (g 3) :: rarr a :: .string ⟨(endsL 254 15).toArray⟩ :: rarr t0 :: List.replicate 21 un).toArray, []⟩ : Act)) (GS w [(q4, 32, rl 0), (q1, 32, rl a)] B7 1 3 4 32 (rl 0) (fun j => rl ([t0].getD j t0))) [rarr a, .string ⟨(endsL 254 15).toArray⟩, rarr t0, .pointer (some ⟨0, 0, none⟩), undef] (by kernel_rfl) (by kernel_rfl) (by kernel_rfl) (by kernel_rfl) (fun _ _ _ _ h => h) (fun d hd => GS.start h6.drew eB7 (by decide) (fun _ _ => rfl) (fun j hj => hd j (Nat.lt_of_lt_of_le hj (by decide)))) ?_ ?_
  · refine AllGhost.cons (ghost_load 1 rfl (by decide) (fun _ => by kernel_rfl) (fun _ => by kernel_rfl) (fun _ => by kernel_rfl) Tryd.underlying32 rfl (info_rl _)) ?_
    refine AllGhost.cons (ghost_call (v := .string ⟨(endsL 254 15).toArray⟩) (by decide) (fun _ => by kernel_rfl) (fun _ => by kernel_rfl) enter89 #[iN .u8 254, iN .u8 15] (fun _ => by kernel_rfl) (fun w' h' => rexp_any 254 15 w')) ?_
    refine AllGhost.cons (ghost_call (v := rarr t0) (by decide) (fun _ => by kernel_rfl) (fun _ => by kernel_rfl) enter88 #[rarr a, .string ⟨(endsL 254 15).toArray⟩] (fun _ => by kernel_rfl) (fun w' h' => KP w')) ?_
    refine AllGhost.cons (ghost_make 0 (by decide) rfl (fun _ => by kernel_rfl) (fun _ _ => by kernel_rfl) (fun _ _ => run_alloc32)) ?_
    refine AllGhost.cons (ghost_fill 0 (by decide) rfl (fun _ => by kernel_rfl) (fun _ => by kernel_rfl) (fun _ => by kernel_rfl) (fun _ => by kernel_rfl) (info_rl _) (one_rl _) (by kernel_rfl)) ?_
    exact AllGhost.nil
  intro g w8 g9
  have h10 : HA w [(g 3, 32, rl t0), (q4, 32, rl 0), (q1, 32, rl a)] w8 := g9.one
  clear g9 eB7
  generalize g 3 = q11 at h10 ⊢
  clear g
  refine then_at (F := ⟨(rarr a :: pt q1 :: pt q4 :: .bool false :: pt q11 :: rarr a :: .string ⟨(endsL 254 15).toArray⟩ :: rarr t0 :: List.replicate 21 un).toArray, []⟩) (by kernel_rfl) ?_
  refine wp_seq ?_
  refine wp_seq ?_
  -- region 2
  refine wp_region_sure ⟨(rarr a :: pt q1 :: pt q4 :: .bool false :: pt q11 :: rarr a :: .string ⟨(endsL 254 15).toArray⟩ :: rarr t0 :: rarr t0 :: rarr t0 :: rarr (mulP t0 t0) :: rarr a :: .bool true :: List.replicate 16 un).toArray, []⟩ (HA w [(q11, 32, rl t0), (q4, 32, rl 0), (q1, 32, rl a)]) [rarr t0, rarr t0, rarr (mulP t0 t0), rarr a, .bool true] (by kernel_rfl) (by kernel_rfl) (by kernel_rfl) (by kernel_rfl) (fun _ _ _ h => h) h10.drew ?_ ?_
  · refine AllSure.cons (OpSure.take (v := rarr t0) (by kernel_rfl) (by kernel_rfl) (fun _ h => run_load_blk (by kernel_rfl) (h.get 0 rfl) Tryd.underlying32 rfl (info_rl _))) ?_
    refine AllSure.cons (OpSure.take (v := rarr t0) (by kernel_rfl) (by kernel_rfl) (fun _ h => run_load_blk (by kernel_rfl) (h.get 0 rfl) Tryd.underlying32 rfl (info_rl _))) ?_
    refine AllSure.cons (sure_call (v := rarr (mulP t0 t0)) (by kernel_rfl) (by kernel_rfl) enter90 HA.keep #[rarr t0, rarr t0] (by kernel_rfl) (fun w' h' => rmul_any t0 t0 (Nat.lt_trans ht0 (by decide)) (Nat.lt_trans ht0 (by decide)) w')) ?_
    refine AllSure.cons (OpSure.take (v := rarr a) (by kernel_rfl) (by kernel_rfl) (fun _ h => run_load_blk (by kernel_rfl) (h.get 2 rfl) Tryd.underlying32 rfl (info_rl _))) ?_
    refine AllSure.cons (OpSure.take (v := .bool true) (by kernel_rfl) (by kernel_rfl) (fun _ _ => (run_ne32 (mulP t0 t0) a (Nat.lt_trans (mulP_lt _ _) (by decide)) (Nat.lt_trans ha (by decide)) (by kernel_rfl) (by kernel_rfl) false (decide_eq_false hq1)))) ?_
    exact AllSure.nil
  intro w12 h13
  refine then_at (F := ⟨(rarr a :: pt q1 :: pt q4 :: .bool false :: pt q11 :: rarr a :: .string ⟨(endsL 254 15).toArray⟩ :: rarr t0 :: rarr t0 :: rarr t0 :: rarr (mulP t0 t0) :: rarr a :: .bool true :: List.replicate 16 un).toArray, []⟩) (by kernel_rfl) ?_
  refine wp_cond_true (by kernel_rfl) ?_
  -- region 3
  refine wp_region_ghost (fun _ : Nat → Nat => (⟨(rarr a :: pt q1 :: pt q4 :: .bool false :: pt q11 :: rarr a :: .string ⟨(endsL 254 15).toArray⟩ :: rarr t0 :: rarr t0 :: rarr t0 :: rarr (mulP t0 t0) :: rarr a :: .bool true :: rarr t0 :: rarr 2 :: .string ⟨(endsL 251 31).toArray⟩ :: rarr ri :: rarr t1 :: List.replicate 11 un).toArray, []⟩ : Act)) (GF w [(q11, 32, rl t0), (q4, 32, rl 0), (q1, 32, rl a)] 5 0 0 q11 32 (rl t1)) [rarr t0, rarr 2, .string ⟨(endsL 251 31).toArray⟩, rarr ri, rarr t1, undef] (by kernel_rfl) (by kernel_rfl) (by kernel_rfl) (by kernel_rfl) (fun _ _ _ _ h => h) (fun d hd => GF.start h13.drew (hd 5 (by decide))) ?_ ?_
  · refine AllGhost.cons (gf_load 0 rfl (by decide) (fun _ => by kernel_rfl) (fun _ => by kernel_rfl) (fun _ => by kernel_rfl) Tryd.underlying32 rfl (info_rl _)) ?_
    refine AllGhost.cons (gf_call (v := rarr 2) (by decide) (fun _ => by kernel_rfl) (fun _ => by kernel_rfl) enter97 #[iN .u32 2] (fun _ => by kernel_rfl) (fun w' => rsmall_any 2 (by decide) w')) ?_
    refine AllGhost.cons (gf_call (v := .string ⟨(endsL 251 31).toArray⟩) (by decide) (fun _ => by kernel_rfl) (fun _ => by kernel_rfl) enter89 #[iN .u8 251, iN .u8 31] (fun _ => by kernel_rfl) (fun w' => rexp_any 251 31 w')) ?_
    refine AllGhost.cons (gf_call (v := rarr ri) (by decide) (fun _ => by kernel_rfl) (fun _ => by kernel_rfl) enter88 #[rarr 2, .string ⟨(endsL 251 31).toArray⟩] (fun _ => by kernel_rfl) (fun w' => K2 w')) ?_
    refine AllGhost.cons (gf_call (v := rarr t1) (by decide) (fun _ => by kernel_rfl) (fun _ => by kernel_rfl) enter90 #[rarr t0, rarr ri] (fun _ => by kernel_rfl) (fun w' => KT w')) ?_
    refine AllGhost.cons (gf_fill rfl (rl_sz _ _) (fun _ => by kernel_rfl) (fun _ => by kernel_rfl) (fun _ => by kernel_rfl) (fun _ => by kernel_rfl) (info_rl _) (one_rl _) (by decide) (by kernel_rfl)) ?_
    exact AllGhost.nil
  intro _ w14 g15
  have h16 : HA w [(q11, 32, rl t1), (q4, 32, rl 0), (q1, 32, rl a)] w14 := g15.held
  clear g15
  refine then_at (F := ⟨(rarr a :: pt q1 :: pt q4 :: .bool false :: pt q11 :: rarr a :: .string ⟨(endsL 254 15).toArray⟩ :: rarr t0 :: rarr t0 :: rarr t0 :: rarr (mulP t0 t0) :: rarr a :: .bool true :: rarr t0 :: rarr 2 :: .string ⟨(endsL 251 31).toArray⟩ :: rarr ri :: rarr t1 :: List.replicate 11 un).toArray, []⟩) (by kernel_rfl) ?_
  refine wp_seq ?_
  refine wp_seq ?_
  -- region 4
  refine wp_region_sure ⟨(rarr a :: pt q1 :: pt q4 :: .bool false :: pt q11 :: rarr a :: .string ⟨(endsL 254 15).toArray⟩ :: rarr t0 :: rarr t0 :: rarr t0 :: rarr (mulP t0 t0) :: rarr a :: .bool true :: rarr t0 :: rarr 2 :: .string ⟨(endsL 251 31).toArray⟩ :: rarr ri :: rarr t1 :: rarr t1 :: rarr t1 :: rarr (mulP t1 t1) :: rarr a :: .bool false :: List.replicate 6 un).toArray, []⟩ (HA w [(q11, 32, rl t1), (q4, 32, rl 0), (q1, 32, rl a)]) [rarr t1, rarr t1, rarr (mulP t1 t1), rarr a, .bool false] (by kernel_rfl) (by kernel_rfl) (by kernel_rfl) (by kernel_rfl) (fun _ _ _ h => h) h16.drew ?_ ?_
  · refine AllSure.cons (OpSure.take (v := rarr t1) (by kernel_rfl) (by kernel_rfl) (fun _ h => run_load_blk (by kernel_rfl) (h.get 0 rfl) Tryd.underlying32 rfl (info_rl _))) ?_
    refine AllSure.cons (OpSure.take (v := rarr t1) (by kernel_rfl) (by kernel_rfl) (fun _ h => run_load_blk (by kernel_rfl) (h.get 0 rfl) Tryd.underlying32 rfl (info_rl _))) ?_
    refine AllSure.cons (sure_call (v := rarr (mulP t1 t1)) (by kernel_rfl) (by kernel_rfl) enter90 HA.keep #[rarr t1, rarr t1] (by kernel_rfl) (fun w' h' => rmul_any t1 t1 (Nat.lt_trans ht1 (by decide)) (Nat.lt_trans ht1 (by decide)) w')) ?_
    refine AllSure.cons (OpSure.take (v := rarr a) (by kernel_rfl) (by kernel_rfl) (fun _ h => run_load_blk (by kernel_rfl) (h.get 2 rfl) Tryd.underlying32 rfl (info_rl _))) ?_
    refine AllSure.cons (OpSure.take (v := .bool false) (by kernel_rfl) (by kernel_rfl) (fun _ _ => (run_ne32 (mulP t1 t1) a (Nat.lt_trans (mulP_lt _ _) (by decide)) (Nat.lt_trans ha (by decide)) (by kernel_rfl) (by kernel_rfl) true (decide_eq_true hq2)))) ?_
    exact AllSure.nil
  intro w17 h18
  refine then_at (F := ⟨(rarr a :: pt q1 :: pt q4 :: .bool false :: pt q11 :: rarr a :: .string ⟨(endsL 254 15).toArray⟩ :: rarr t0 :: rarr t0 :: rarr t0 :: rarr (mulP t0 t0) :: rarr a :: .bool true :: rarr t0 :: rarr 2 :: .string ⟨(endsL 251 31).toArray⟩ :: rarr ri :: rarr t1 :: rarr t1 :: rarr t1 :: rarr (mulP t1 t1) :: rarr a :: .bool false :: List.replicate 6 un).toArray, []⟩) (by kernel_rfl) ?_
  refine wp_cond_false (by kernel_rfl) ?_
  refine wp_skip ?_
  refine then_at (F := ⟨(rarr a :: pt q1 :: pt q4 :: .bool false :: pt q11 :: rarr a :: .string ⟨(endsL 254 15).toArray⟩ :: rarr t0 :: rarr t0 :: rarr t0 :: rarr (mulP t0 t0) :: rarr a :: .bool true :: rarr t0 :: rarr 2 :: .string ⟨(endsL 251 31).toArray⟩ :: rarr ri :: rarr t1 :: rarr t1 :: rarr t1 :: rarr (mulP t1 t1) :: rarr a :: .bool false :: List.replicate 6 un).toArray, []⟩) (by kernel_rfl) ?_
  refine wp_seq ?_
  refine wp_seq ?_
  -- region 6
  refine wl_region ?_
  refine wl_load h18 0 rfl (by kernel_rfl) (by kernel_rfl) Tryd.underlying32 rfl (info_rl _) ?_
  refine wl_call (v := .bool false) h18 (by kernel_rfl) enter53 #[rarr t1] (by kernel_rfl) (rodd_no t1 hodd w17) ?_
  intro w19 h20
  refine wl_nil ?_
  refine then_at (F := ⟨(rarr a :: pt q1 :: pt q4 :: .bool false :: pt q11 :: rarr a :: .string ⟨(endsL 254 15).toArray⟩ :: rarr t0 :: rarr t0 :: rarr t0 :: rarr (mulP t0 t0) :: rarr a :: .bool true :: rarr t0 :: rarr 2 :: .string ⟨(endsL 251 31).toArray⟩ :: rarr ri :: rarr t1 :: rarr t1 :: rarr t1 :: rarr (mulP t1 t1) :: rarr a :: .bool false :: un :: rarr t1 :: .bool false :: List.replicate 3 un).toArray, []⟩) (by kernel_rfl) ?_
  refine wp_cond_false (by kernel_rfl) ?_
  refine wp_skip ?_
  refine then_at (F := ⟨(rarr a :: pt q1 :: pt q4 :: .bool false :: pt q11 :: rarr a :: .string ⟨(endsL 254 15).toArray⟩ :: rarr t0 :: rarr t0 :: rarr t0 :: rarr (mulP t0 t0) :: rarr a :: .bool true :: rarr t0 :: rarr 2 :: .string ⟨(endsL 251 31).toArray⟩ :: rarr ri :: rarr t1 :: rarr t1 :: rarr t1 :: rarr (mulP t1 t1) :: rarr a :: .bool false :: un :: rarr t1 :: .bool false :: List.replicate 3 un).toArray, []⟩) (by kernel_rfl) ?_
  refine wp_seq ?_
  -- region 8
  refine wl_region ?_
  refine wl_load h20 0 rfl (by kernel_rfl) (by kernel_rfl) Tryd.underlying32 rfl (info_rl _) ?_
  refine wl_fill (c' := rl t1) h20 1 rfl (by kernel_rfl) (by kernel_rfl) (by kernel_rfl) (rl_sz _ _) (info_rl _) (one_rl _) ?_
  intro w21 (h22 : HA w [(q11, 32, rl t1), (q4, 32, rl t1), (q1, 32, rl a)] w21)
  refine wl_val (.bool true) (by kernel_rfl) (by kernel_rfl) ?_
  refine wl_nil ?_
  refine then_at (F := ⟨(rarr a :: pt q1 :: pt q4 :: .bool true :: pt q11 :: rarr a :: .string ⟨(endsL 254 15).toArray⟩ :: rarr t0 :: rarr t0 :: rarr t0 :: rarr (mulP t0 t0) :: rarr a :: .bool true :: rarr t0 :: rarr 2 :: .string ⟨(endsL 251 31).toArray⟩ :: rarr ri :: rarr t1 :: rarr t1 :: rarr t1 :: rarr (mulP t1 t1) :: rarr a :: .bool false :: un :: rarr t1 :: .bool false :: un :: un :: rarr t1 :: List.replicate 0 un).toArray, []⟩) (by kernel_rfl) ?_
  refine wp_ret ?_
  repeat first | refine then_ret ?_ | refine block_ret ?_
  exact bodyPost_ret (v := .tuple #[rarr (t1), .bool true]) (res_cell_tmp (p := 2) (r := 3) (by kernel_rfl) (by kernel_rfl) (by kernel_rfl) (h22.get 1 rfl) Tryd.underlying32 rfl (info_rl _)) rfl ⟨rfl, h22.old⟩

set_option linter.unusedVariables false in
set_option maxRecDepth 100000 in
set_option maxHeartbeats 2000000 in
theorem rr_n (a t0 t1 ri : Nat) (ha : a < P) (ht0 : t0 < P) (ht1 : t1 < P) (hri : ri < P) (KP : ∀ w, Calls Tryd.prog 88 #[rarr a, .string ⟨(endsL 254 15).toArray⟩] w fun e w' => e = .returned (rarr t0) ∧ Below w.heap.size w w') (K2 : ∀ w, Calls Tryd.prog 88 #[rarr 2, .string ⟨(endsL 251 31).toArray⟩] w fun e w' => e = .returned (rarr ri) ∧ Below w.heap.size w w') (KT : ∀ w, Calls Tryd.prog 90 #[rarr t0, rarr ri] w fun e w' => e = .returned (rarr t1) ∧ Below w.heap.size w w') (hq1 : ¬ mulP t0 t0 = a) (hq2 : ¬ mulP t1 t1 = a) (w : World) : Calls Tryd.prog 86 #[rarr a] w fun e w' => e = .returned (.tuple #[rarr 0, .bool false]) ∧ Below w.heap.size w w' := by
  have H0 := HA.start w
  go_enter Tryd.func86, Tryd.ntmps86
  refine wp_seq ?_
  -- region 0
  refine wl_region ?_
  refine wl_make H0 32 (by kernel_rfl) (run_box32 (c := rl a) (by kernel_rfl)) ?_
  intro q1 w2 h3
  refine wl_make h3 32 (by kernel_rfl) run_alloc32 ?_
  intro q4 w5 h6
  refine wl_val (.bool false) (by kernel_rfl) (by kernel_rfl) ?_
  refine wl_nil ?_
  refine then_at (F := ⟨(rarr a :: pt q1 :: pt q4 :: .bool false :: List.replicate 25 un).toArray, []⟩) (by kernel_rfl) ?_
  refine wp_seq ?_
  -- region 1
  obtain ⟨B7, eB7⟩ : ∃ B, B = w5.heap.size := ⟨_, rfl⟩
  refine wp_region_ghost (fun g : Nat → Nat => (⟨(rarr a :: pt q1 :: pt q4 :: .bool false :: pt (g 3) :: rarr a :: .string ⟨(endsL 254 15).toArray⟩ :: rarr t0 :: List.replicate 21 un).toArray, []⟩ : Act)) (GS w [(q4, 32, rl 0), (q1, 32, rl a)] B7 1 3 4 32 (rl 0) (fun j => rl ([t0].getD j t0))) [rarr a, .string ⟨(endsL 254 15).toArray⟩, rarr t0, .pointer (some ⟨0, 0, none⟩), undef] (by kernel_rfl) (by kernel_rfl) (by kernel_rfl) (by kernel_rfl) (fun _ _ _ _ h => h) (fun d hd => GS.start h6.drew eB7 (by decide) (fun _ _ => rfl) (fun j hj => hd j (Nat.lt_of_lt_of_le hj (by decide)))) ?_ ?_
  · refine AllGhost.cons (ghost_load 1 rfl (by decide) (fun _ => by kernel_rfl) (fun _ => by kernel_rfl) (fun _ => by kernel_rfl) Tryd.underlying32 rfl (info_rl _)) ?_
    refine AllGhost.cons (ghost_call (v := .string ⟨(endsL 254 15).toArray⟩) (by decide) (fun _ => by kernel_rfl) (fun _ => by kernel_rfl) enter89 #[iN .u8 254, iN .u8 15] (fun _ => by kernel_rfl) (fun w' h' => rexp_any 254 15 w')) ?_
    refine AllGhost.cons (ghost_call (v := rarr t0) (by decide) (fun _ => by kernel_rfl) (fun _ => by kernel_rfl) enter88 #[rarr a, .string ⟨(endsL 254 15).toArray⟩] (fun _ => by kernel_rfl) (fun w' h' => KP w')) ?_
    refine AllGhost.cons (ghost_make 0 (by decide) rfl (fun _ => by kernel_rfl) (fun _ _ => by kernel_rfl) (fun _ _ => run_alloc32)) ?_
    refine AllGhost.cons (ghost_fill 0 (by decide) rfl (fun _ => by kernel_rfl) (fun _ => by kernel_rfl) (fun _ => by kernel_rfl) (fun _ => by kernel_rfl) (info_rl _) (one_rl _) (by kernel_rfl)) ?_
    exact AllGhost.nil
  intro g w8 g9
  have h10 : HA w [(g 3, 32, rl t0), (q4, 32, rl 0), (q1, 32, rl a)] w8 := g9.one
  clear g9 eB7
  generalize g 3 = q11 at h10 ⊢
  clear g
  refine then_at (F := ⟨(rarr a :: pt q1 :: pt q4 :: .bool false :: pt q11 :: rarr a :: .string ⟨(endsL 254 15).toArray⟩ :: rarr t0 :: List.replicate 21 un).toArray, []⟩) (by kernel_rfl) ?_
  refine wp_seq ?_
  refine wp_seq ?_
  -- region 2
  refine wp_region_sure ⟨(rarr a :: pt q1 :: pt q4 :: .bool false :: pt q11 :: rarr a :: .string ⟨(endsL 254 15).toArray⟩ :: rarr t0 :: rarr t0 :: rarr t0 :: rarr (mulP t0 t0) :: rarr a :: .bool true :: List.replicate 16 un).toArray, []⟩ (HA w [(q11, 32, rl t0), (q4, 32, rl 0), (q1, 32, rl a)]) [rarr t0, rarr t0, rarr (mulP t0 t0), rarr a, .bool true] (by kernel_rfl) (by kernel_rfl) (by kernel_rfl) (by kernel_rfl) (fun _ _ _ h => h) h10.drew ?_ ?_
  · refine AllSure.cons (OpSure.take (v := rarr t0) (by kernel_rfl) (by kernel_rfl) (fun _ h => run_load_blk (by kernel_rfl) (h.get 0 rfl) Tryd.underlying32 rfl (info_rl _))) ?_
    refine AllSure.cons (OpSure.take (v := rarr t0) (by kernel_rfl) (by kernel_rfl) (fun _ h => run_load_blk (by kernel_rfl) (h.get 0 rfl) Tryd.underlying32 rfl (info_rl _))) ?_
    refine AllSure.cons (sure_call (v := rarr (mulP t0 t0)) (by kernel_rfl) (by kernel_rfl) enter90 HA.keep #[rarr t0, rarr t0] (by kernel_rfl) (fun w' h' => rmul_any t0 t0 (Nat.lt_trans ht0 (by decide)) (Nat.lt_trans ht0 (by decide)) w')) ?_
    refine AllSure.cons (OpSure.take (v := rarr a) (by kernel_rfl) (by kernel_rfl) (fun _ h => run_load_blk (by kernel_rfl) (h.get 2 rfl) Tryd.underlying32 rfl (info_rl _))) ?_
    refine AllSure.cons (OpSure.take (v := .bool true) (by kernel_rfl) (by kernel_rfl) (fun _ _ => (run_ne32 (mulP t0 t0) a (Nat.lt_trans (mulP_lt _ _) (by decide)) (Nat.lt_trans ha (by decide)) (by kernel_rfl) (by kernel_rfl) false (decide_eq_false hq1)))) ?_
    exact AllSure.nil
  intro w12 h13
  refine then_at (F := ⟨(rarr a :: pt q1 :: pt q4 :: .bool false :: pt q11 :: rarr a :: .string ⟨(endsL 254 15).toArray⟩ :: rarr t0 :: rarr t0 :: rarr t0 :: rarr (mulP t0 t0) :: rarr a :: .bool true :: List.replicate 16 un).toArray, []⟩) (by kernel_rfl) ?_
  refine wp_cond_true (by kernel_rfl) ?_
  -- region 3
  refine wp_region_ghost (fun _ : Nat → Nat => (⟨(rarr a :: pt q1 :: pt q4 :: .bool false :: pt q11 :: rarr a :: .string ⟨(endsL 254 15).toArray⟩ :: rarr t0 :: rarr t0 :: rarr t0 :: rarr (mulP t0 t0) :: rarr a :: .bool true :: rarr t0 :: rarr 2 :: .string ⟨(endsL 251 31).toArray⟩ :: rarr ri :: rarr t1 :: List.replicate 11 un).toArray, []⟩ : Act)) (GF w [(q11, 32, rl t0), (q4, 32, rl 0), (q1, 32, rl a)] 5 0 0 q11 32 (rl t1)) [rarr t0, rarr 2, .string ⟨(endsL 251 31).toArray⟩, rarr ri, rarr t1, undef] (by kernel_rfl) (by kernel_rfl) (by kernel_rfl) (by kernel_rfl) (fun _ _ _ _ h => h) (fun d hd => GF.start h13.drew (hd 5 (by decide))) ?_ ?_
  · refine AllGhost.cons (gf_load 0 rfl (by decide) (fun _ => by kernel_rfl) (fun _ => by kernel_rfl) (fun _ => by kernel_rfl) Tryd.underlying32 rfl (info_rl _)) ?_
    refine AllGhost.cons (gf_call (v := rarr 2) (by decide) (fun _ => by kernel_rfl) (fun _ => by kernel_rfl) enter97 #[iN .u32 2] (fun _ => by kernel_rfl) (fun w' => rsmall_any 2 (by decide) w')) ?_
    refine AllGhost.cons (gf_call (v := .string ⟨(endsL 251 31).toArray⟩) (by decide) (fun _ => by kernel_rfl) (fun _ => by kernel_rfl) enter89 #[iN .u8 251, iN .u8 31] (fun _ => by kernel_rfl) (fun w' => rexp_any 251 31 w')) ?_
    refine AllGhost.cons (gf_call (v := rarr ri) (by decide) (fun _ => by kernel_rfl) (fun _ => by kernel_rfl) enter88 #[rarr 2, .string ⟨(endsL 251 31).toArray⟩] (fun _ => by kernel_rfl) (fun w' => K2 w')) ?_
    refine AllGhost.cons (gf_call (v := rarr t1) (by decide) (fun _ => by kernel_rfl) (fun _ => by kernel_rfl) enter90 #[rarr t0, rarr ri] (fun _ => by kernel_rfl) (fun w' => KT w')) ?_
    refine AllGhost.cons (gf_fill rfl (rl_sz _ _) (fun _ => by kernel_rfl) (fun _ => by kernel_rfl) (fun _ => by kernel_rfl) (fun _ => by kernel_rfl) (info_rl _) (one_rl _) (by decide) (by kernel_rfl)) ?_
    exact AllGhost.nil
  intro _ w14 g15
  have h16 : HA w [(q11, 32, rl t1), (q4, 32, rl 0), (q1, 32, rl a)] w14 := g15.held
  clear g15
  refine then_at (F := ⟨(rarr a :: pt q1 :: pt q4 :: .bool false :: pt q11 :: rarr a :: .string ⟨(endsL 254 15).toArray⟩ :: rarr t0 :: rarr t0 :: rarr t0 :: rarr (mulP t0 t0) :: rarr a :: .bool true :: rarr t0 :: rarr 2 :: .string ⟨(endsL 251 31).toArray⟩ :: rarr ri :: rarr t1 :: List.replicate 11 un).toArray, []⟩) (by kernel_rfl) ?_
  refine wp_seq ?_
  refine wp_seq ?_
  -- region 4
  refine wp_region_sure ⟨(rarr a :: pt q1 :: pt q4 :: .bool false :: pt q11 :: rarr a :: .string ⟨(endsL 254 15).toArray⟩ :: rarr t0 :: rarr t0 :: rarr t0 :: rarr (mulP t0 t0) :: rarr a :: .bool true :: rarr t0 :: rarr 2 :: .string ⟨(endsL 251 31).toArray⟩ :: rarr ri :: rarr t1 :: rarr t1 :: rarr t1 :: rarr (mulP t1 t1) :: rarr a :: .bool true :: List.replicate 6 un).toArray, []⟩ (HA w [(q11, 32, rl t1), (q4, 32, rl 0), (q1, 32, rl a)]) [rarr t1, rarr t1, rarr (mulP t1 t1), rarr a, .bool true] (by kernel_rfl) (by kernel_rfl) (by kernel_rfl) (by kernel_rfl) (fun _ _ _ h => h) h16.drew ?_ ?_
  · refine AllSure.cons (OpSure.take (v := rarr t1) (by kernel_rfl) (by kernel_rfl) (fun _ h => run_load_blk (by kernel_rfl) (h.get 0 rfl) Tryd.underlying32 rfl (info_rl _))) ?_
    refine AllSure.cons (OpSure.take (v := rarr t1) (by kernel_rfl) (by kernel_rfl) (fun _ h => run_load_blk (by kernel_rfl) (h.get 0 rfl) Tryd.underlying32 rfl (info_rl _))) ?_
    refine AllSure.cons (sure_call (v := rarr (mulP t1 t1)) (by kernel_rfl) (by kernel_rfl) enter90 HA.keep #[rarr t1, rarr t1] (by kernel_rfl) (fun w' h' => rmul_any t1 t1 (Nat.lt_trans ht1 (by decide)) (Nat.lt_trans ht1 (by decide)) w')) ?_
    refine AllSure.cons (OpSure.take (v := rarr a) (by kernel_rfl) (by kernel_rfl) (fun _ h => run_load_blk (by kernel_rfl) (h.get 2 rfl) Tryd.underlying32 rfl (info_rl _))) ?_
    refine AllSure.cons (OpSure.take (v := .bool true) (by kernel_rfl) (by kernel_rfl) (fun _ _ => (run_ne32 (mulP t1 t1) a (Nat.lt_trans (mulP_lt _ _) (by decide)) (Nat.lt_trans ha (by decide)) (by kernel_rfl) (by kernel_rfl) false (decide_eq_false hq2)))) ?_
    exact AllSure.nil
  intro w17 h18
  refine then_at (F := ⟨(rarr a :: pt q1 :: pt q4 :: .bool false :: pt q11 :: rarr a :: .string ⟨(endsL 254 15).toArray⟩ :: rarr t0 :: rarr t0 :: rarr t0 :: rarr (mulP t0 t0) :: rarr a :: .bool true :: rarr t0 :: rarr 2 :: .string ⟨(endsL 251 31).toArray⟩ :: rarr ri :: rarr t1 :: rarr t1 :: rarr t1 :: rarr (mulP t1 t1) :: rarr a :: .bool true :: List.replicate 6 un).toArray, []⟩) (by kernel_rfl) ?_
  refine wp_cond_true (by kernel_rfl) ?_
  refine wp_seq ?_
  -- region 5
  refine wl_region ?_
  refine wl_val (rarr 0) (by kernel_rfl) run_build0 ?_
  refine wl_fill (c' := rl 0) h18 1 rfl (by kernel_rfl) (by kernel_rfl) (by kernel_rfl) (rl_sz _ _) (info_rl _) (one_rl _) ?_
  intro w19 (h20 : HA w [(q11, 32, rl t1), (q4, 32, rl 0), (q1, 32, rl a)] w19)
  refine wl_val (.bool false) (by kernel_rfl) (by kernel_rfl) ?_
  refine wl_nil ?_
  refine then_at (F := ⟨(rarr a :: pt q1 :: pt q4 :: .bool false :: pt q11 :: rarr a :: .string ⟨(endsL 254 15).toArray⟩ :: rarr t0 :: rarr t0 :: rarr t0 :: rarr (mulP t0 t0) :: rarr a :: .bool true :: rarr t0 :: rarr 2 :: .string ⟨(endsL 251 31).toArray⟩ :: rarr ri :: rarr t1 :: rarr t1 :: rarr t1 :: rarr (mulP t1 t1) :: rarr a :: .bool true :: rarr 0 :: List.replicate 5 un).toArray, []⟩) (by kernel_rfl) ?_
  refine wp_ret ?_
  repeat first | refine then_ret ?_ | refine block_ret ?_
  exact bodyPost_ret (v := .tuple #[rarr 0, .bool false]) (res_cell_tmp (p := 2) (r := 3) (by kernel_rfl) (by kernel_rfl) (by kernel_rfl) (h20.get 1 rfl) Tryd.underlying32 rfl (info_rl _)) rfl ⟨rfl, h20.old⟩

theorem rp_try0 (a : Nat) (ha : a < P) (w : World) : Calls Tryd.prog 88 #[rarr a, .string ⟨(endsL 254 15).toArray⟩] w fun e w' => e = .returned (rarr (try0 a)) ∧ Below w.heap.size w w' := by
  unfold try0
  exact rpower_is a eighth _ ha rfl exp_root w
theorem rp_try1 (a : Nat) (w : World) : Calls Tryd.prog 90 #[rarr (try0 a), rarr rootI] w fun e w' => e = .returned (rarr (try1 a)) ∧ Below w.heap.size w w' := by
  have h := rmul_any (try0 a) rootI (Nat.lt_trans (try0_lt a) (by decide)) (by decide) w
  unfold mulP at h
  unfold try1
  exact h
theorem rroot_yes (a r : Nat) (ha : a < P) (h : rootP a = some r) (w : World) : Calls Tryd.prog 86 #[rarr a] w fun e w' => e = .returned (.tuple #[rarr r, .bool true]) ∧ Below w.heap.size w w' := by
  unfold rootP at h
  split at h
  · rename_i hB
    have hr := Option.some.inj h
    rw [← hr]
    unfold rootB at hB ⊢
    by_cases hq1 : try0 a * try0 a % P = a
    · rw [if_pos hq1]
      rcases Nat.mod_two_eq_zero_or_one (try0 a) with ho | ho
      · rw [if_neg (by omega)]; exact rr_1e a (try0 a) (try1 a) rootI ha (try0_lt a) (try1_lt a) (by decide) (rp_try0 a ha) (rpower_two _ rfl exp_minus) (rp_try1 a) hq1 ho w
      · rw [if_pos ho]; exact rr_1o a (try0 a) (try1 a) rootI ha (try0_lt a) (try1_lt a) (by decide) (rp_try0 a ha) (rpower_two _ rfl exp_minus) (rp_try1 a) hq1 ho w
    · rw [if_neg hq1] at hB ⊢
      rcases Nat.mod_two_eq_zero_or_one (try1 a) with ho | ho
      · rw [if_neg (by omega)]; exact rr_2e a (try0 a) (try1 a) rootI ha (try0_lt a) (try1_lt a) (by decide) (rp_try0 a ha) (rpower_two _ rfl exp_minus) (rp_try1 a) hq1 hB ho w
      · rw [if_pos ho]; exact rr_2o a (try0 a) (try1 a) rootI ha (try0_lt a) (try1_lt a) (by decide) (rp_try0 a ha) (rpower_two _ rfl exp_minus) (rp_try1 a) hq1 hB ho w
  · cases h
theorem rroot_no (a : Nat) (ha : a < P) (h : rootP a = none) (w : World) : Calls Tryd.prog 86 #[rarr a] w fun e w' => e = .returned (.tuple #[rarr 0, .bool false]) ∧ Below w.heap.size w w' := by
  unfold rootP at h
  split at h
  · cases h
  · rename_i hB
    unfold rootB at hB
    by_cases hq1 : try0 a * try0 a % P = a
    · rw [if_pos hq1] at hB; exact absurd hq1 hB
    · rw [if_neg hq1] at hB
      exact rr_n a (try0 a) (try1 a) rootI ha (try0_lt a) (try1_lt a) (by decide) (rp_try0 a ha) (rpower_two _ rfl exp_minus) (rp_try1 a) hq1 hB w
end Go.Proofs.YtpaendmdcdeemaaDoor
