/-
  The reference's words, byte by byte.
-/
import Derived.Test.YthljhhhjdajfhaaR0
namespace Go.Proofs.Ythljhhhjdajfhaa
open Go.RowKit

def w4 (w : BitVec 32) : List UInt8 := [B3 w, B2 w, B1 w, B0 w]
def flatW (l : List (BitVec 32)) : List UInt8 := l.flatMap w4
theorem flat_cons (w : BitVec 32) (l : List (BitVec 32)) : flatW (w :: l) = w4 w ++ flatW l := rfl
theorem flat_app (l : List (BitVec 32)) (w : BitVec 32) : flatW (l ++ [w]) = flatW l ++ w4 w := by unfold flatW; rw [List.flatMap_append]; simp
theorem flat_len : ∀ l : List (BitVec 32), (flatW l).length = 4 * l.length
  | [] => rfl
  | w :: l => by rw [flat_cons, List.length_append, flat_len l, List.length_cons]; show 4 + _ = _; omega
theorem flat_get : ∀ (l : List (BitVec 32)) (n j : Nat), n < l.length → j < 4 → (flatW l)[n * 4 + j]? = some ((w4 (l.getD n 0)).getD j 0)
  | [], n, _, h, _ => absurd h (Nat.not_lt_zero _)
  | w :: l, 0, j, _, hj => by
    have hl : j < (w4 w).length := hj
    rw [flat_cons, Nat.zero_mul, Nat.zero_add, List.getElem?_append_left hl]
    show (w4 w)[j]? = some ((w4 w).getD j 0)
    rw [List.getD_eq_getElem?_getD, List.getElem?_eq_getElem hl]
    rfl
  | w :: l, n + 1, j, h, hj => by
    rw [flat_cons, List.getElem?_append_right (by show 4 ≤ _; omega), show (n + 1) * 4 + j - (w4 w).length = n * 4 + j by show (n + 1) * 4 + j - 4 = _; omega, flat_get l n j (by simpa using h) hj]
    rfl
theorem flat_first (s : ByteArray) : ∀ i, 4 * i ≤ s.size → flatW (fst8 s i) = (bl s).take (4 * i)
  | 0, _ => rfl
  | i + 1, h => by
    have g : ∀ j, j < s.size → (bl s)[j]? = some ((bl s).getD j 0) := fun j hj => by
      have hl : j < (bl s).length := by rw [bl_len]; exact hj
      rw [List.getD_eq_getElem?_getD, List.getElem?_eq_getElem hl]; rfl
    rw [fst8, flat_app, flat_first s i (by omega), wS_ext, show 4 * (i + 1) = 4 * i + 1 + 1 + 1 + 1 by omega, List.take_add_one, List.take_add_one, List.take_add_one, List.take_add_one, g _ (by omega), g _ (by omega), g _ (by omega), g _ (by omega)]
    unfold w4
    rw [B3_wo, B2_wo, B1_wo, B0_wo]
    simp
theorem rot_nat (x : BitVec 32) : (rlW x 8).toNat = 256 * (x.toNat % 16777216) + x.toNat / 16777216 := by
  have hx := x.isLt
  unfold rlW
  rw [BitVec.toNat_or, BitVec.toNat_shiftLeft, BitVec.toNat_ushiftRight, Nat.shiftLeft_eq, Nat.shiftRight_eq_div_pow]
  have e1 : x.toNat * 2 ^ 8 % 2 ^ 32 = 2 ^ 8 * (x.toNat % 16777216) := by omega
  have o := Nat.two_pow_add_eq_or_of_lt (i := 8) (b := x.toNat / 2 ^ 24) (by omega) (x.toNat % 16777216)
  rw [e1, ← o]
theorem rot_wo (x : BitVec 32) : rlW x 8 = wo (B2 x) (B1 x) (B0 x) (B3 x) := BitVec.eq_of_toNat_eq (by
  have hx : x.toNat = 16777216 * (B3 x).toNat + 65536 * (B2 x).toNat + 256 * (B1 x).toNat + (B0 x).toNat := by rw [← wo_toNat, wo_B]
  have h3 := (B3 x).toNat_lt; have h2 := (B2 x).toNat_lt; have h1 := (B1 x).toNat_lt; have h0 := (B0 x).toNat_lt
  rw [rot_nat, wo_toNat]
  omega)
theorem B3_rot (x : BitVec 32) : B3 (rlW x 8) = B2 x := by rw [rot_wo, B3_wo]
theorem B2_rot (x : BitVec 32) : B2 (rlW x 8) = B1 x := by rw [rot_wo, B2_wo]
theorem B1_rot (x : BitVec 32) : B1 (rlW x 8) = B0 x := by rw [rot_wo, B1_wo]
theorem B0_rot (x : BitVec 32) : B0 (rlW x 8) = B3 x := by rw [rot_wo, B0_wo]
/-- the power of two that is due -/
def pwK (k : Nat) : UInt8 := UInt8.ofNat (2 ^ ((k + 7) / 8))
theorem pw_all : ∀ j, j < 7 → pr (UInt8.ofNat (2 ^ j)) 2 = UInt8.ofNat (2 ^ (j + 1)) := by decide +kernel
theorem pw_yes (k : Nat) (h : (8 + k) % 8 = 0) (hk : k < 52) : pwK (k + 1) = pr (pwK k) 2 := by
  unfold pwK
  rw [pw_all _ (by omega), show (k + 1 + 7) / 8 = (k + 7) / 8 + 1 by omega]
theorem pw_no (k : Nat) (h : ¬ (8 + k) % 8 = 0) : pwK (k + 1) = pwK k := by
  unfold pwK
  rw [show (k + 1 + 7) / 8 = (k + 7) / 8 by omega]
theorem mW_all : ∀ j, j < 7 → B3 (1#32 <<< (24 + j)) = UInt8.ofNat (2 ^ j) ∧ B2 (1#32 <<< (24 + j)) = 0 ∧ B1 (1#32 <<< (24 + j)) = 0 ∧ B0 (1#32 <<< (24 + j)) = 0 := by decide +kernel
/-- the next word -/
def nwd (s : ByteArray) (k : Nat) : BitVec 32 := (sch s k).getD (8 + k - 8) 0 ^^^ tW (sch s k) (8 + k) ^^^ mW (8 + k)
theorem sch_next (s : ByteArray) (k : Nat) : sch s (k + 1) = sch s k ++ [nwd s k] := rfl
theorem B3_bx (a b c d : BitVec 32) : B3 (bxW a b c d) = bx (B3 a) := B3_wo _ _ _ _
theorem B2_bx (a b c d : BitVec 32) : B2 (bxW a b c d) = bx (B2 b) := B2_wo _ _ _ _
theorem B1_bx (a b c d : BitVec 32) : B1 (bxW a b c d) = bx (B1 c) := B1_wo _ _ _ _
theorem B0_bx (a b c d : BitVec 32) : B0 (bxW a b c d) = bx (B0 d) := B0_wo _ _ _ _
theorem nw_a (s : ByteArray) (k : Nat) (h : (8 + k) % 8 = 0) (hk : k < 52) (j : Nat) (hj : j < 4) :
    (w4 ((sch s k).getD (8 + k - 8) 0)).getD j 0 ^^^ [bx (B2 ((sch s k).getD (8 + k - 1) 0)) ^^^ pwK k, bx (B1 ((sch s k).getD (8 + k - 1) 0)), bx (B0 ((sch s k).getD (8 + k - 1) 0)), bx (B3 ((sch s k).getD (8 + k - 1) 0))].getD j 0 = (w4 (nwd s k)).getD j 0 := by
  obtain ⟨m3, m2, m1, m0⟩ := mW_all (k / 8) (by omega)
  have e : mW (8 + k) = 1#32 <<< (24 + k / 8) := by unfold mW; rw [if_pos h, show 24 + (8 + k) / 8 - 1 = 24 + k / 8 by omega]
  have ep : pwK k = UInt8.ofNat (2 ^ (k / 8)) := by unfold pwK; rw [show (k + 7) / 8 = k / 8 by omega]
  unfold nwd tW
  rw [e, if_pos h, ep]
  generalize (sch s k).getD (8 + k - 8) 0 = U
  generalize (sch s k).getD (8 + k - 1) 0 = V
  unfold w4
  rw [B3_xor, B3_xor, B2_xor, B2_xor, B1_xor, B1_xor, B0_xor, B0_xor, m3, m2, m1, m0, B3_bx, B2_bx, B1_bx, B0_bx, B3_rot, B2_rot, B1_rot, B0_rot]
  rcases j with _ | _ | _ | _ | j
  · exact (UInt8.xor_assoc _ _ _).symm
  · exact (UInt8.xor_zero).symm
  · exact (UInt8.xor_zero).symm
  · exact (UInt8.xor_zero).symm
  · omega
theorem nw_b (s : ByteArray) (k : Nat) (h : ¬ (8 + k) % 8 = 0) (h4 : (8 + k) % 8 = 4) (j : Nat) (hj : j < 4) :
    (w4 ((sch s k).getD (8 + k - 8) 0)).getD j 0 ^^^ [bx (B3 ((sch s k).getD (8 + k - 1) 0)), bx (B2 ((sch s k).getD (8 + k - 1) 0)), bx (B1 ((sch s k).getD (8 + k - 1) 0)), bx (B0 ((sch s k).getD (8 + k - 1) 0))].getD j 0 = (w4 (nwd s k)).getD j 0 := by
  unfold nwd tW mW
  rw [if_neg h, if_pos h4, if_neg h, BitVec.xor_zero]
  generalize (sch s k).getD (8 + k - 8) 0 = U
  generalize (sch s k).getD (8 + k - 1) 0 = V
  unfold w4
  rw [B3_xor, B2_xor, B1_xor, B0_xor, B3_bx, B2_bx, B1_bx, B0_bx]
  rcases j with _ | _ | _ | _ | j
  · rfl
  · rfl
  · rfl
  · rfl
  · omega
theorem nw_c (s : ByteArray) (k : Nat) (h : ¬ (8 + k) % 8 = 0) (h4 : ¬ (8 + k) % 8 = 4) (j : Nat) (hj : j < 4) :
    (w4 ((sch s k).getD (8 + k - 8) 0)).getD j 0 ^^^ (w4 ((sch s k).getD (8 + k - 1) 0)).getD j 0 = (w4 (nwd s k)).getD j 0 := by
  unfold nwd tW mW
  rw [if_neg h, if_neg h4, if_neg h, BitVec.xor_zero]
  generalize (sch s k).getD (8 + k - 8) 0 = U
  generalize (sch s k).getD (8 + k - 1) 0 = V
  unfold w4
  rw [B3_xor, B2_xor, B1_xor, B0_xor]
  rcases j with _ | _ | _ | _ | j
  · rfl
  · rfl
  · rfl
  · rfl
  · omega
/-- all words, and the first j bytes of the next -/
def kj (s : ByteArray) (k j : Nat) : List UInt8 := flatW (sch s k) ++ (w4 (nwd s k)).take j
theorem kj_len (s : ByteArray) (k j : Nat) (hj : j ≤ 4) : (kj s k j).length = 32 + 4 * k + j := by
  unfold kj
  rw [List.length_append, flat_len, sch_len, List.length_take]
  show 4 * (8 + k) + min j 4 = _
  omega
theorem kj_next (s : ByteArray) (k j : Nat) (hj : j < 4) : kj s k (j + 1) = kj s k j ++ [(w4 (nwd s k)).getD j 0] := by
  unfold kj
  have hl : j < (w4 (nwd s k)).length := hj
  rw [List.take_add_one, List.getElem?_eq_getElem hl, List.getD_eq_getElem?_getD, List.getElem?_eq_getElem hl, List.append_assoc]
  rfl
theorem kj_all (s : ByteArray) (k : Nat) : kj s k 4 = kj s (k + 1) 0 := by
  unfold kj
  rw [List.take_zero, List.append_nil, sch_next, flat_app]
  rfl
theorem kj_get (s : ByteArray) (k j m n i : Nat) (hn : n < 8 + k) (hi : i < 4) : (bc (kj s k j ++ List.replicate m 0))[n * 4 + i]? = some (by8 ((w4 ((sch s k).getD n 0)).getD i 0)) := by
  have h := flat_get (sch s k) n i (by rw [sch_len]; exact hn) hi
  have hl := (List.getElem?_eq_some_iff.1 h).1
  unfold bc kj
  rw [List.getElem?_toArray, List.getElem?_map, List.append_assoc, List.getElem?_append_left hl, h]
  rfl
theorem kj_row (s : ByteArray) (k j m n : Nat) (hn : n < 8 + k) : ∀ i v, (bc (w4 ((sch s k).getD n 0)))[i]? = some v → (bc (kj s k j ++ List.replicate m 0))[n * 4 + i]? = some v := by
  intro i v h
  have hi : i < 4 := (Array.getElem?_eq_some_iff.1 h).1
  rw [kj_get s k j m n i hn hi, ← h, bc_get _ _ (by show i < 4; exact hi)]
theorem kj_zero (s : ByteArray) (hs : s.size = 32) : kj s 0 0 = (bl s).take 32 := by
  unfold kj
  rw [List.take_zero, List.append_nil]
  exact flat_first s 8 (by omega)
end Go.Proofs.Ythljhhhjdajfhaa
