/-
  the law SignOther: another number is none.
-/
import Derived.Test.YtefjnfeckenmkaaDoorSg5
namespace Go.Proofs.YtefjnfeckenmkaaDoor
open Go.RowKit Num

/-- the bytes of a number, the first k laid -/
def plL (n k : Nat) : List UInt8 := (digs 256 k n).map UInt8.ofNat ++ List.replicate (32 - k) 0
theorem plL_len (n k : Nat) (hk : k ≤ 32) : (plL n k).length = 32 := by unfold plL; rw [List.length_append, List.length_map, digs_length, List.length_replicate]; omega
theorem plL_put (n k : Nat) (hk : k < 32) : (cs (plL n k)).toArray.setIfInBounds k (.int .u8 ((n / 256 ^ k % 256 : Nat) : Int)) = (cs (plL n (k + 1))).toArray := by
  have e0 : ((n / 256 ^ k % 256 : Nat) : Int) = ((UInt8.ofNat (n / 256 ^ k % 256)).toNat : Int) := by rw [UInt8.toNat_ofNat', Nat.mod_mod]
  rw [e0, cs_set]
  congr 2
  unfold plL
  rw [List.set_append_right _ _ (by rw [List.length_map, digs_length]; omega), List.length_map, digs_length, Nat.sub_self, show 32 - k = (32 - (k + 1)) + 1 by omega, List.replicate_succ, List.set_cons_zero, digs_snoc, List.map_append, List.append_assoc]
  rfl
def cyP (a b : Nat) : Nat → Nat
  | 0 => 0
  | k + 1 => (a / 256 ^ k % 256 + b / 256 ^ k % 256 + cyP a b k) / 256
theorem cyP_eq (B a b : Nat) : ∀ k, (hB : B = 256) → cyP a b k = (a % B ^ k + b % B ^ k) / B ^ k
  | 0, _ => by rw [Nat.pow_zero, Nat.mod_one, Nat.mod_one]; rfl
  | k + 1, hB => by
    have ih := cyP_eq B a b k hB
    have hp : 0 < B ^ k := Nat.pow_pos (by omega)
    rw [cyP, ih, ← hB, Nat.pow_succ, Nat.mod_mul, Nat.mod_mul, ← Nat.div_div_eq_div_mul]
    congr 1
    rw [show a % B ^ k + B ^ k * (a / B ^ k % B) + (b % B ^ k + B ^ k * (b / B ^ k % B)) = (a % B ^ k + b % B ^ k) + B ^ k * (a / B ^ k % B + b / B ^ k % B) by rw [Nat.mul_add]; omega, Nat.add_mul_div_left _ _ hp]
    omega
theorem cyP_le (a b : Nat) : ∀ k, cyP a b k ≤ 1
  | 0 => Nat.zero_le _
  | k + 1 => by
    have := cyP_le a b k
    have h1 := Nat.mod_lt (a / 256 ^ k) (show 256 > 0 by decide)
    have h2 := Nat.mod_lt (b / 256 ^ k) (show 256 > 0 by decide)
    show (a / 256 ^ k % 256 + b / 256 ^ k % 256 + cyP a b k) / 256 ≤ 1
    omega
theorem cyP_dig (B a b k : Nat) (hB : B = 256) : (a + b) / B ^ k % B = (a / B ^ k % B + b / B ^ k % B + cyP a b k) % B := by
  have hp : 0 < B ^ k := Nat.pow_pos (by omega)
  rw [cyP_eq B a b k hB]
  have e : (a + b) / B ^ k = (a / B ^ k + b / B ^ k) + (a % B ^ k + b % B ^ k) / B ^ k := by
    have h1 := Nat.div_add_mod a (B ^ k)
    have h2 := Nat.div_add_mod b (B ^ k)
    have h3 : a + b = (a % B ^ k + b % B ^ k) + B ^ k * (a / B ^ k + b / B ^ k) := by rw [Nat.mul_add]; omega
    rw [h3, Nat.add_mul_div_left _ _ hp]
    omega
  rw [e, Nat.add_mod, Nat.add_mod (a / B ^ k) (b / B ^ k) B, ← Nat.add_mod]
/-- a sum's bytes -/
def plS (a b : Nat) : ByteArray := ⟨(plL (a + b) 32).toArray⟩
theorem plS_size (a b : Nat) : (plS a b).size = 32 := plL_len _ 32 (by decide)
theorem plS_num (a b : Nat) (h : a + b < 256 ^ 32) : numS (plS a b) = a + b := by
  show num 256 ((plL (a + b) 32).map (·.toNat)) = _
  unfold plL
  rw [Nat.sub_self, List.replicate_zero, List.append_nil, List.map_map, show (fun x : UInt8 => x.toNat) ∘ UInt8.ofNat = fun n => n % 256 by funext n; simp]
  have e : (digs 256 32 (a + b)).map (fun n => n % 256) = digs 256 32 (a + b) := by
    conv => rhs; rw [← List.map_id (digs 256 32 (a + b))]
    apply List.map_congr_left
    intro x hx
    exact Nat.mod_eq_of_lt (digs_lt 256 (by decide) 32 (a + b) x hx)
  rw [e, num_digs, Nat.mod_eq_of_lt h]

def zSg6a_0 (a : ByteArray) (b : ByteArray) q1 (zx6 zx7 : Value) (zt : List Value) := (.string a :: .string b :: un :: un :: .string { data := #[] } :: .slice (some ⟨q1, 0, none⟩) 32 32 :: zx6 :: zx7 :: un :: .slice (some ⟨q1, 0, none⟩) 32 32 :: zt : List Value)
def zSg6a_1 (a : ByteArray) (b : ByteArray) q1 k (u4 : Nat → Value) (zx10 zx11 : Value) (zt : List Value) := (.string a :: .string b :: un :: un :: .string { data := #[] } :: .slice (some ⟨q1, 0, none⟩) 32 32 :: iN .i64 (cyP (numS a) (numS b) k) :: iN .i64 k :: u4 8 :: .slice (some ⟨q1, 0, none⟩) 32 32 :: zx10 :: zx11 :: u4 12 :: u4 13 :: u4 14 :: u4 15 :: u4 16 :: u4 17 :: u4 18 :: u4 19 :: u4 20 :: u4 21 :: u4 22 :: u4 23 :: u4 24 :: u4 25 :: u4 26 :: u4 27 :: u4 28 :: u4 29 :: u4 30 :: u4 31 :: un :: un :: zt : List Value)
def zSg6a_2 (a : ByteArray) (b : ByteArray) q1 k (u4 : Nat → Value) (zx6 zx25 zx26 zx27 zx28 zx29 zx30 zx31 : Value) (zt : List Value) := (.string a :: .string b :: un :: un :: .string { data := #[] } :: .slice (some ⟨q1, 0, none⟩) 32 32 :: zx6 :: iN .i64 k :: iN .i64 (((sb a k) + (sb b k)) + (cyP (numS a) (numS b) k)) :: .slice (some ⟨q1, 0, none⟩) 32 32 :: iN .i64 k :: .bool true :: u4 12 :: u4 13 :: .string a :: iN .i64 k :: iN .u8 (sb a k) :: iN .i64 (sb a k) :: .string b :: iN .i64 k :: iN .u8 (sb b k) :: iN .i64 (sb b k) :: iN .i64 ((sb a k) + (sb b k)) :: iN .i64 (cyP (numS a) (numS b) k) :: iN .i64 (((sb a k) + (sb b k)) + (cyP (numS a) (numS b) k)) :: zx25 :: zx26 :: zx27 :: zx28 :: zx29 :: zx30 :: zx31 :: un :: un :: zt : List Value)
def zSg6a_3 (a : ByteArray) (b : ByteArray) q1 (u4 : Nat → Value) (zx4 : Value) (zt : List Value) := (.string a :: .string b :: un :: un :: zx4 :: .slice (some ⟨q1, 0, none⟩) 32 32 :: iN .i64 (cyP (numS a) (numS b) 32) :: iN .i64 32 :: u4 8 :: .slice (some ⟨q1, 0, none⟩) 32 32 :: iN .i64 32 :: .bool false :: u4 12 :: u4 13 :: u4 14 :: u4 15 :: u4 16 :: u4 17 :: u4 18 :: u4 19 :: u4 20 :: u4 21 :: u4 22 :: u4 23 :: u4 24 :: u4 25 :: u4 26 :: u4 27 :: u4 28 :: u4 29 :: u4 30 :: u4 31 :: zt : List Value)
set_option linter.unusedVariables false in
set_option maxRecDepth 100000 in
set_option maxHeartbeats 2000000 in
theorem plus_any (a b : ByteArray) (ha : a.size = 32) (hb : b.size = 32) (w : World) :
    Calls Tryd.prog 12 #[.string a, .string b] w fun e w' => e = .returned (.string (plS (numS a) (numS b))) ∧ Below w.heap.size w w' := by
  have H0 := HA.start w
  go_enter Tryd.func12, Tryd.ntmps12
  refine wp_seq ?_
  refine wl_region ?_
  refine wl_val (.string { data := #[] }) (by kernel_rfl) (by kernel_rfl) ?_
  refine wl_nil ?_
  refine then_at (F := ⟨(.string a :: .string b :: un :: un :: .string { data := #[] } :: List.replicate 29 un).toArray, []⟩) (by kernel_rfl) ?_
  refine wp_seq ?_
  refine wl_region ?_
  refine wl_mkslice (n := 32) H0 5 (by kernel_rfl) (run_mk 32 (by decide) (by kernel_rfl) (by kernel_rfl)) ?_
  intro q1 w2 h3
  refine wl_val (.slice (some ⟨q1, 0, none⟩) 32 32) (by kernel_rfl) (by kernel_rfl) ?_
  refine wl_nil ?_
  refine then_at (F := ⟨(zSg6a_0 a b q1 un un (List.replicate 24 un)).toArray, []⟩) (by kernel_rfl) ?_
  refine wp_seq ?_
  refine wl_region ?_
  refine wl_val (iN .i64 0) (by kernel_rfl) (by kernel_rfl) ?_
  refine wl_nil ?_
  refine then_at (F := ⟨(zSg6a_0 a b q1 (iN .i64 0) un (List.replicate 24 un)).toArray, []⟩) (by kernel_rfl) ?_
  refine wp_seq ?_
  refine wp_seq ?_
  refine wl_region ?_
  refine wl_val (iN .i64 0) (by kernel_rfl) (by kernel_rfl) ?_
  refine wl_nil ?_
  refine then_at (F := ⟨(zSg6a_0 a b q1 (iN .i64 0) (iN .i64 0) (List.replicate 24 un)).toArray, []⟩) (by kernel_rfl) ?_
  refine wp_block ?_
  refine wp_count (fun k A w' => ∃ u4 : Nat → Value, A = ⟨(zSg6a_1 a b q1 k u4 (u4 10) (u4 11) ([])).toArray, []⟩ ∧ HA w [(q1, 5, (cs (plL (numS a + numS b) k)).toArray)] w') 32 ?_ ?_ ?_
  · exact ⟨fun ii => (([(8, undef), (10, undef), (11, undef), (12, undef), (13, undef), (14, undef), (15, undef), (16, undef), (17, undef), (18, undef), (19, undef), (20, undef), (21, undef), (22, undef), (23, undef), (24, undef), (25, undef), (26, undef), (27, undef), (28, undef), (29, undef), (30, undef), (31, undef)] : List (Nat × Value)).find? (·.1 == ii)).elim undef (·.2), by kernel_rfl, (by rw [← (by kernel_rfl : zr 32 = (cs (plL (numS a + numS b) 0)).toArray)]; exact h3)⟩
  · rintro k hk _ w5 ⟨u4, rfl, h6⟩
    refine wp_seq ?_
    refine wp_seq ?_
    refine wl_region ?_
    refine wl_val (iN .i64 k) (by kernel_rfl) (by kernel_rfl) ?_
    refine wl_val (.bool true) (by kernel_rfl) (run_lss (k := .i64) (a := k) (b := 32) (by kernel_rfl) (by kernel_rfl) true (decide_eq_true hk)) ?_
    refine wl_nil ?_
    refine then_at (F := ⟨(zSg6a_1 a b q1 k u4 (iN .i64 k) (.bool true) ([])).toArray, []⟩) (by kernel_rfl) ?_
    refine wp_cond_true (by kernel_rfl) ?_
    refine wp_skip ?_
    refine then_at (F := ⟨(zSg6a_1 a b q1 k u4 (iN .i64 k) (.bool true) ([])).toArray, []⟩) (by kernel_rfl) ?_
    refine wp_seq ?_
    refine wp_block ?_
    refine wp_seq ?_
    refine wp_region_sure ⟨(zSg6a_2 a b q1 k u4 (iN .i64 (cyP (numS a) (numS b) k)) (u4 25) (u4 26) (u4 27) (u4 28) (u4 29) (u4 30) (u4 31) ([])).toArray, []⟩ (HA w [(q1, 5, (cs (plL (numS a + numS b) k)).toArray)]) [.string a, iN .i64 k, iN .u8 (sb a k), iN .i64 (sb a k), .string b, iN .i64 k, iN .u8 (sb b k), iN .i64 (sb b k), iN .i64 ((sb a k) + (sb b k)), iN .i64 (cyP (numS a) (numS b) k), iN .i64 (((sb a k) + (sb b k)) + (cyP (numS a) (numS b) k)), iN .i64 (((sb a k) + (sb b k)) + (cyP (numS a) (numS b) k))] (by kernel_rfl) (by kernel_rfl) (by kernel_rfl) (by kernel_rfl) (fun _ _ _ h => h) h6.drew ?_ ?_
    · refine AllSure.cons (OpSure.take (v := .string a) (by kernel_rfl) (by kernel_rfl) (fun _ _ => (by kernel_rfl))) ?_
      refine AllSure.cons (OpSure.take (v := iN .i64 k) (by kernel_rfl) (by kernel_rfl) (fun _ _ => (by kernel_rfl))) ?_
      refine AllSure.cons (OpSure.take (v := iN .u8 (sb a k)) (by kernel_rfl) (by kernel_rfl) (fun _ _ => (run_sidx (s := a) (a := k) (by kernel_rfl) (by kernel_rfl) (by rw [ha]; exact hk)))) ?_
      refine AllSure.cons (OpSure.take (v := iN .i64 (sb a k)) (by kernel_rfl) (by kernel_rfl) (fun _ _ => (run_conv .i64 Tryd.underlying5 Tryd.underlying3 (by kernel_rfl) (Nat.lt_trans (sb_lt _ _) (by decide))))) ?_
      refine AllSure.cons (OpSure.take (v := .string b) (by kernel_rfl) (by kernel_rfl) (fun _ _ => (by kernel_rfl))) ?_
      refine AllSure.cons (OpSure.take (v := iN .i64 k) (by kernel_rfl) (by kernel_rfl) (fun _ _ => (by kernel_rfl))) ?_
      refine AllSure.cons (OpSure.take (v := iN .u8 (sb b k)) (by kernel_rfl) (by kernel_rfl) (fun _ _ => (run_sidx (s := b) (a := k) (by kernel_rfl) (by kernel_rfl) (by rw [hb]; exact hk)))) ?_
      refine AllSure.cons (OpSure.take (v := iN .i64 (sb b k)) (by kernel_rfl) (by kernel_rfl) (fun _ _ => (run_conv .i64 Tryd.underlying5 Tryd.underlying3 (by kernel_rfl) (Nat.lt_trans (sb_lt _ _) (by decide))))) ?_
      refine AllSure.cons (OpSure.take (v := iN .i64 ((sb a k) + (sb b k))) (by kernel_rfl) (by kernel_rfl) (fun _ _ => (run_add (k := .i64) (a := sb a k) (b := sb b k) (by kernel_rfl) (by kernel_rfl) (by have h1 := sb_lt a k; have h2 := sb_lt b k; have h3 := cyP_le (numS a) (numS b) k; simp only [top]; omega)))) ?_
      refine AllSure.cons (OpSure.take (v := iN .i64 (cyP (numS a) (numS b) k)) (by kernel_rfl) (by kernel_rfl) (fun _ _ => (by kernel_rfl))) ?_
      refine AllSure.cons (OpSure.take (v := iN .i64 (((sb a k) + (sb b k)) + (cyP (numS a) (numS b) k))) (by kernel_rfl) (by kernel_rfl) (fun _ _ => (run_add (k := .i64) (a := (sb a k) + (sb b k)) (b := cyP (numS a) (numS b) k) (by kernel_rfl) (by kernel_rfl) (by have h1 := sb_lt a k; have h2 := sb_lt b k; have h3 := cyP_le (numS a) (numS b) k; simp only [top]; omega)))) ?_
      refine AllSure.cons (OpSure.take (v := iN .i64 (((sb a k) + (sb b k)) + (cyP (numS a) (numS b) k))) (by kernel_rfl) (by kernel_rfl) (fun _ _ => (by kernel_rfl))) ?_
      exact AllSure.nil
    intro w7 h8
    refine then_at (F := ⟨(zSg6a_2 a b q1 k u4 (iN .i64 (cyP (numS a) (numS b) k)) (u4 25) (u4 26) (u4 27) (u4 28) (u4 29) (u4 30) (u4 31) ([])).toArray, []⟩) (by kernel_rfl) ?_
    refine wp_seq ?_
    refine wl_region ?_
    refine wl_val (.slice (some ⟨q1, 0, none⟩) 32 32) (by kernel_rfl) (by kernel_rfl) ?_
    refine wl_val (iN .i64 k) (by kernel_rfl) (by kernel_rfl) ?_
    refine wl_val (iN .i64 (((sb a k) + (sb b k)) + (cyP (numS a) (numS b) k))) (by kernel_rfl) (by kernel_rfl) ?_
    refine wl_val (iN .u8 ((((sb a k) + (sb b k)) + (cyP (numS a) (numS b) k)) % 256)) (by kernel_rfl) (run_conv8 (k := .i64) (a := ((sb a k) + (sb b k)) + (cyP (numS a) (numS b) k)) Tryd.underlying3 Tryd.underlying5 (by kernel_rfl)) ?_
    refine wl_val (.pointer (some ⟨q1, k, none⟩)) (by kernel_rfl) (run_addr_slice (q := q1) (n := 32) (m := 32) (a := k) Tryd.underlying27 (fun w => Tryd.sizeOf5 w) (by kernel_rfl) (by kernel_rfl) (by omega)) ?_
    refine wl_put (k := .u8) (z := (((((sb a k) + (sb b k)) + (cyP (numS a) (numS b) k)) % 256 : Nat) : Int)) h8 0 rfl k (by rw [List.size_toArray, cs_length, plL_len _ _ (by omega)]; omega) (by kernel_rfl) (fun w => Tryd.sizeOf5 w) (by kernel_rfl) (by kernel_rfl) ?_
    intro w9 h10
    have h11 : HA w [(q1, 5, (cs (plL (numS a + numS b) (k + 1))).toArray)] w9 := (by have hz := plL_put (numS a + numS b) k hk; rw [cyP_dig 256 (numS a) (numS b) k rfl] at hz; rw [← hz]; exact h10)
    clear h10
    refine wl_nil ?_
    refine then_at (F := ⟨(zSg6a_2 a b q1 k u4 (iN .i64 (cyP (numS a) (numS b) k)) (.slice (some ⟨q1, 0, none⟩) 32 32) (iN .i64 k) (iN .i64 (((sb a k) + (sb b k)) + (cyP (numS a) (numS b) k))) (iN .u8 ((((sb a k) + (sb b k)) + (cyP (numS a) (numS b) k)) % 256)) (.pointer (some ⟨q1, k, none⟩)) (u4 30) (u4 31) ([])).toArray, []⟩) (by kernel_rfl) ?_
    refine wl_region ?_
    refine wl_val (iN .i64 (((sb a k) + (sb b k)) + (cyP (numS a) (numS b) k))) (by kernel_rfl) (by kernel_rfl) ?_
    refine wl_val (iN .i64 ((((sb a k) + (sb b k)) + (cyP (numS a) (numS b) k)) / 2 ^ 8)) (by kernel_rfl) (run_shr (k2 := .u64) (k := .i64) (a := ((sb a k) + (sb b k)) + (cyP (numS a) (numS b) k)) (b := 8) (by kernel_rfl) (by kernel_rfl) (by decide)) ?_
    refine wl_val (iN .i64 ((((sb a k) + (sb b k)) + (cyP (numS a) (numS b) k)) / 2 ^ 8)) (by kernel_rfl) (by kernel_rfl) ?_
    refine wl_nil ?_
    refine block_normal ?_
    refine then_at (F := ⟨(zSg6a_2 a b q1 k u4 (iN .i64 ((((sb a k) + (sb b k)) + (cyP (numS a) (numS b) k)) / 2 ^ 8)) (.slice (some ⟨q1, 0, none⟩) 32 32) (iN .i64 k) (iN .i64 (((sb a k) + (sb b k)) + (cyP (numS a) (numS b) k))) (iN .u8 ((((sb a k) + (sb b k)) + (cyP (numS a) (numS b) k)) % 256)) (.pointer (some ⟨q1, k, none⟩)) (iN .i64 (((sb a k) + (sb b k)) + (cyP (numS a) (numS b) k))) (iN .i64 ((((sb a k) + (sb b k)) + (cyP (numS a) (numS b) k)) / 2 ^ 8)) ([])).toArray, []⟩) (by kernel_rfl) ?_
    refine wl_region ?_
    refine wl_val (iN .i64 k) (by kernel_rfl) (by kernel_rfl) ?_
    refine wl_val (iN .i64 (k + 1)) (by kernel_rfl) (run_add (k := .i64) (a := k) (b := 1) (by kernel_rfl) (by kernel_rfl) (by simp only [top]; omega)) ?_
    refine wl_val (iN .i64 (k + 1)) (by kernel_rfl) (by kernel_rfl) ?_
    refine wl_nil ?_
    exact then_I ⟨fun ii => (([(8, iN .i64 (((sb a k) + (sb b k)) + (cyP (numS a) (numS b) k))), (10, iN .i64 k), (11, .bool true), (12, iN .i64 k), (13, iN .i64 (k + 1)), (14, .string a), (15, iN .i64 k), (16, iN .u8 (sb a k)), (17, iN .i64 (sb a k)), (18, .string b), (19, iN .i64 k), (20, iN .u8 (sb b k)), (21, iN .i64 (sb b k)), (22, iN .i64 ((sb a k) + (sb b k))), (23, iN .i64 (cyP (numS a) (numS b) k)), (24, iN .i64 (((sb a k) + (sb b k)) + (cyP (numS a) (numS b) k))), (25, .slice (some ⟨q1, 0, none⟩) 32 32), (26, iN .i64 k), (27, iN .i64 (((sb a k) + (sb b k)) + (cyP (numS a) (numS b) k))), (28, iN .u8 ((((sb a k) + (sb b k)) + (cyP (numS a) (numS b) k)) % 256)), (29, .pointer (some ⟨q1, k, none⟩)), (30, iN .i64 (((sb a k) + (sb b k)) + (cyP (numS a) (numS b) k))), (31, iN .i64 ((((sb a k) + (sb b k)) + (cyP (numS a) (numS b) k)) / 2 ^ 8))] : List (Nat × Value)).find? (·.1 == ii)).elim undef (·.2), by kernel_rfl, h11⟩
  · rintro _ w12 ⟨u4, rfl, h13⟩
    refine wp_seq ?_
    refine wp_seq ?_
    refine wl_region ?_
    refine wl_val (iN .i64 32) (by kernel_rfl) (by kernel_rfl) ?_
    refine wl_val (.bool false) (by kernel_rfl) (run_lss (k := .i64) (a := 32) (b := 32) (by kernel_rfl) (by kernel_rfl) false (by decide)) ?_
    refine wl_nil ?_
    refine then_at (F := ⟨(zSg6a_3 a b q1 u4 (.string { data := #[] }) (List.replicate 2 un)).toArray, []⟩) (by kernel_rfl) ?_
    refine wp_cond_false (by kernel_rfl) ?_
    refine wp_exit ?_
    repeat first | refine then_exit ?_ | refine block_exit ?_ | refine block_exit_ne (by decide) ?_
    refine then_at (F := ⟨(zSg6a_3 a b q1 u4 (.string { data := #[] }) (List.replicate 2 un)).toArray, []⟩) (by kernel_rfl) ?_
    refine wp_seq ?_
    refine wl_region ?_
    refine wl_val (.slice (some ⟨q1, 0, none⟩) 32 32) (by kernel_rfl) (by kernel_rfl) ?_
    refine wl_val (.string (plS (numS a) (numS b))) (by kernel_rfl) (run_text (plL (numS a + numS b) 32) (by kernel_rfl) (h13.get 0 rfl) rfl (plL_len _ 32 (by decide)).symm) ?_
    refine wl_val (.string (plS (numS a) (numS b))) (by kernel_rfl) (by kernel_rfl) ?_
    refine wl_nil ?_
    refine then_at (F := ⟨(zSg6a_3 a b q1 u4 (.string (plS (numS a) (numS b))) (.slice (some ⟨q1, 0, none⟩) 32 32 :: .string (plS (numS a) (numS b)) :: [])).toArray, []⟩) (by kernel_rfl) ?_
    refine wp_ret ?_
    repeat first | refine then_ret ?_ | refine block_ret ?_
    exact bodyPost_ret (v := .string (plS (numS a) (numS b))) (by kernel_rfl) rfl ⟨rfl, h13.old⟩
end Go.Proofs.YtefjnfeckenmkaaDoor
