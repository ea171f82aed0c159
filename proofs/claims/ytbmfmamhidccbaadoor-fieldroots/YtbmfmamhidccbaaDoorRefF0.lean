/-
  Lists that are filled one by one; sums of digits.
-/
import Derived.Test.YtbmfmamhidccbaaDoorRefE
namespace Go.Proofs.YtbmfmamhidccbaaDoor
open Go.RowKit Num

/-- k of a list are laid, the rest is nought -/
def fillL (S : List Nat) (k : Nat) : List Nat := S.take k ++ List.replicate (16 - k) 0
theorem fill_zero (S : List Nat) : fillL S 0 = List.replicate 16 0 := rfl
theorem fill_len (S : List Nat) (hS : S.length = 16) (k : Nat) (hk : k ≤ 16) : (fillL S k).length = 16 := by unfold fillL; simp; omega
theorem fill_put (S : List Nat) (hS : S.length = 16) (k : Nat) (hk : k < 16) : (fillL S k).set k (dg S k) = fillL S (k + 1) := by
  unfold fillL
  have hlen : (S.take k).length = k := by simp; omega
  rw [List.set_append_right _ _ (by omega), hlen, Nat.sub_self, show 16 - k = (16 - (k + 1)) + 1 by omega, List.replicate_succ, List.set_cons_zero, dg_get S k (by omega), List.take_add_one, List.getElem?_eq_getElem (by omega), List.append_assoc]
  rfl
theorem fill_end (S : List Nat) (hS : S.length = 16) : fillL S 16 = S := by unfold fillL; rw [List.take_of_length_le (by omega)]; simp
theorem dig_dg (n k : Nat) (hk : k < 16) : dg (digs 65536 16 n) k = n / 65536 ^ k % 65536 := by
  rw [dg_get _ k (by rw [digs_length]; exact hk), digs_get]
theorem num_zip (B : Nat) : ∀ (l m : List Nat), l.length = m.length → num B (List.zipWith (· + ·) l m) = num B l + num B m
  | [], [], _ => rfl
  | x :: l, y :: m, h => by
    have := num_zip B l m (by simpa using h)
    simp only [List.zipWith_cons_cons, num]
    rw [this, Nat.mul_add]
    omega
/-- sums digit by digit -/
def addD (a b : Nat) : List Nat := List.zipWith (· + ·) (digs 65536 16 a) (digs 65536 16 b)
theorem addD_len (a b : Nat) : (addD a b).length = 16 := by unfold addD; rw [List.length_zipWith, digs_length, digs_length]; rfl
theorem addD_dg (a b k : Nat) (hk : k < 16) : dg (addD a b) k = a / 65536 ^ k % 65536 + b / 65536 ^ k % 65536 := by
  rw [dg_get _ k (by rw [addD_len]; exact hk)]
  unfold addD
  rw [List.getElem_zipWith, digs_get, digs_get]
theorem addD_num (a b : Nat) (ha : a < 65536 ^ 16) (hb : b < 65536 ^ 16) : num 65536 (addD a b) = a + b := by
  unfold addD
  rw [num_zip _ _ _ (by rw [digs_length, digs_length]), num_digs, num_digs, Nat.mod_eq_of_lt ha, Nat.mod_eq_of_lt hb]
theorem addD_bound (a b : Nat) : ∀ x ∈ addD a b, x < 4398046511104 := fun x hx => by
  obtain ⟨k, hk, rfl⟩ := List.mem_iff_getElem.1 hx
  rw [addD_len] at hk
  rw [← dg_get _ k (by rw [addD_len]; exact hk), addD_dg a b k hk]
  have h1 : a / 65536 ^ k % 65536 < 65536 := Nat.mod_lt _ (by decide)
  have h2 : b / 65536 ^ k % 65536 < 65536 := Nat.mod_lt _ (by decide)
  omega
theorem fill_cells (S : List Nat) (hS : S.length = 16) (k : Nat) (hk : k < 16) (x : Nat) (hx : x = dg S k) : (ul (fillL S k)).setIfInBounds k (.int .u64 (x : Int)) = ul (fillL S (k + 1)) := by
  rw [ul_put, hx, fill_put S hS k hk]
/-- bytes of an array -/
theorem arr_byte (l : List UInt8) (hl : l.length = 32) (i : Nat) (hi : i < 32) : (cs l).toArray[i]? = some (iN .u8 (sb ⟨l.toArray⟩ i)) := by
  have hs : i < (⟨l.toArray⟩ : ByteArray).size := by show i < l.toArray.size; simp; omega
  rw [← sb_get ⟨l.toArray⟩ i hs]
  simp [cs, List.getElem?_eq_getElem (show i < l.length by omega)]
  rfl
theorem sb_dig (s : ByteArray) (k : Nat) (hk : k < 16) : (sb s (2 * k) ||| sb s (2 * k + 1) * 2 ^ 8) = dg (digs 65536 16 (numS s)) k := by
  rw [dig_dg _ k hk, or16 _ _ (sb_lt s _)]
  unfold sb
  rw [pow2, Nat.pow_succ, ← Nat.div_div_eq_div_mul]
  omega
/-- the highest bit is struck -/
def topD (n : Nat) : List Nat := (digs 65536 16 n).set 15 (dg (digs 65536 16 n) 15 &&& 32767)
theorem topD_len (n : Nat) : (topD n).length = 16 := by unfold topD; rw [List.length_set, digs_length]
theorem topD_bound (n : Nat) : ∀ x ∈ topD n, x < 4398046511104 := fun x hx => by
  unfold topD at hx
  have h1 := digs_lt 65536 (by decide) 16 n
  rcases List.mem_or_eq_of_mem_set hx with h | h
  · have := h1 x h; omega
  · have h2 : dg (digs 65536 16 n) 15 &&& 32767 = dg (digs 65536 16 n) 15 % 32768 := Nat.and_two_pow_sub_one_eq_mod _ 15
    omega
theorem topD_num (n : Nat) (hn : n < 65536 ^ 16) : num 65536 (topD n) = n % 2 ^ 255 := by
  have h2 : dg (digs 65536 16 n) 15 &&& 32767 = dg (digs 65536 16 n) 15 % 32768 := Nat.and_two_pow_sub_one_eq_mod _ 15
  have h := num_set 65536 (digs 65536 16 n) 15 (dg (digs 65536 16 n) 15 % 32768) (by rw [digs_length]; decide)
  unfold topD
  rw [h2]
  rw [digs_get, num_digs, Nat.mod_eq_of_lt hn] at h
  rw [dig_dg n 15 (by decide)] at h ⊢
  generalize num 65536 ((digs 65536 16 n).set 15 (n / 65536 ^ 15 % 65536 % 32768)) = m at *
  have e1 : (65536 : Nat) ^ 15 = 1766847064778384329583297500742918515827483896875618958121606201292619776 := by decide
  have e2 : (2 : Nat) ^ 255 = 57896044618658097711785492504343953926634992332820282019728792003956564819968 := by decide
  have e3 : (65536 : Nat) ^ 16 = 115792089237316195423570985008687907853269984665640564039457584007913129639936 := by decide
  rw [e1] at h
  rw [e2]
  rw [e3] at hn
  omega
theorem numS_arr (l : List UInt8) (hl : l.length = 32) : numS ⟨l.toArray⟩ < 65536 ^ 16 := by
  have h1 := num_lt 256 (bts ⟨l.toArray⟩) (bts_lt _)
  rw [bts_length] at h1
  have e : (⟨l.toArray⟩ : ByteArray).size = 32 := by show l.toArray.size = 32; simp [hl]
  rw [e] at h1
  exact Nat.lt_of_lt_of_le h1 (by decide)
theorem any_num (l : List UInt8) (hl : l.length = 32) : num 65536 (topD (numS ⟨l.toArray⟩)) % P = anyP l := by
  rw [topD_num _ (numS_arr l hl)]
  rfl
theorem neg16 (a : Nat) (ha : a < P) (h : a ≠ 0) : P - a = negP a := by
  unfold negP
  exact (Nat.mod_eq_of_lt (by omega)).symm
theorem sub16 (a b : Nat) (hb : b < P) : addP a (negP b) = subP a b := by
  unfold addP negP subP
  rw [Nat.add_mod_mod, Nat.add_sub_assoc (Nat.le_of_lt hb)]
end Go.Proofs.YtbmfmamhidccbaaDoor
