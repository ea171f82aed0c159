/-
  The reference's rounds, byte by byte.
-/
import Derived.Test.YthljhhhjdajfhaaR3
namespace Go.Proofs.Ythljhhhjdajfhaa
open Go.RowKit

/-- the first i are A's, the others B's -/
def hf (A B : List UInt8) (i : Nat) : List UInt8 := A.take i ++ B.drop i
theorem hf_len {A B : List UInt8} {i : Nat} (hA : A.length = 16) (hB : B.length = 16) (hi : i ≤ 16) : (hf A B i).length = 16 := by
  unfold hf
  rw [List.length_append, List.length_take, List.length_drop, hA, hB]
  omega
theorem hf_get {A B : List UInt8} {i m : Nat} (hA : A.length = 16) (hB : B.length = 16) (hi : i ≤ m) (hm : m < 16) : (bc (hf A B i))[m]? = some (by8 (B.getD m 0)) := by
  have hl : (hf A B i).length = 16 := hf_len hA hB (by omega)
  have e : (A.take i).length = i := by rw [List.length_take, hA]; omega
  rw [bc_get _ _ (by omega)]
  unfold hf
  rw [List.getD_eq_getElem?_getD, List.getElem?_append_right (by omega), e, List.getElem?_drop, show i + (m - i) = m by omega, ← List.getD_eq_getElem?_getD]
theorem hf_put {A B : List UInt8} {i : Nat} (hA : A.length = 16) (hB : B.length = 16) (hi : i < 16) (o : Nat) (ho : o = i) (v : UInt8) (hv : v = A.getD i 0) : (bc (hf A B i)).setIfInBounds o (.int .u8 (v.toNat : Int)) = bc (hf A B (i + 1)) := by
  subst ho hv
  have e : (A.take o).length = o := by rw [List.length_take, hA]; omega
  have hA2 : o < A.length := by omega
  have hB2 : o < B.length := by omega
  rw [bc_put]
  unfold hf
  rw [List.set_append_right _ _ (by omega), e, Nat.sub_self, List.drop_eq_getElem_cons hB2, List.set_cons_zero, List.take_add_one, List.getElem?_eq_getElem hA2, List.getD_eq_getElem?_getD, List.getElem?_eq_getElem hA2, List.append_assoc]
  rfl
theorem hf_full {A B : List UInt8} (hA : A.length = 16) (hB : B.length = 16) : hf A B 16 = A := by
  unfold hf
  rw [List.take_of_length_le (by omega), List.drop_eq_nil_of_le (by omega), List.append_nil]
theorem o16 (q : Q4) : (outQ q 4).length = 16 := outQ_len q 4
theorem take_next16 (q : Q4) (n : Nat) (h : n < 16) : (outQ q 4).take (n + 1) = (outQ q 4).take n ++ [(outQ q 4).getD n 0] := by
  have hl : n < (outQ q 4).length := by rw [o16]; exact h
  rw [List.take_add_one, List.getElem?_eq_getElem hl, List.getD_eq_getElem?_getD, List.getElem?_eq_getElem hl]
  rfl
theorem add_byte (x : Q4) (kw : List (BitVec 32)) (n i : Nat) (hi : i < 16) : (outQ x 4).getD i 0 ^^^ (w4 (kw.getD (4 * n + i / 4) 0)).getD (i % 4) 0 = (outQ (addQ x (rk kw n)) 4).getD i 0 := by
  rw [outQ4, outQ4]
  rcases i with _ | _ | _ | _ | _ | _ | _ | _ | _ | _ | _ | _ | _ | _ | _ | _ | i
  · exact (B3_xor _ _).symm
  · exact (B2_xor _ _).symm
  · exact (B1_xor _ _).symm
  · exact (B0_xor _ _).symm
  · exact (B3_xor _ _).symm
  · exact (B2_xor _ _).symm
  · exact (B1_xor _ _).symm
  · exact (B0_xor _ _).symm
  · exact (B3_xor _ _).symm
  · exact (B2_xor _ _).symm
  · exact (B1_xor _ _).symm
  · exact (B0_xor _ _).symm
  · exact (B3_xor _ _).symm
  · exact (B2_xor _ _).symm
  · exact (B1_xor _ _).symm
  · exact (B0_xor _ _).symm
  · omega
theorem add_byte0 (x : Q4) (kw : List (BitVec 32)) (i : Nat) (hi : i < 16) : (outQ x 4).getD i 0 ^^^ (w4 (kw.getD (i / 4) 0)).getD (i % 4) 0 = (outQ (addQ x (rk kw 0)) 4).getD i 0 := by
  have h := add_byte x kw 0 i hi
  rw [Nat.mul_zero, Nat.zero_add] at h
  exact h
theorem trn_byte (q : Q4) (c r : Nat) (hc : c < 4) (hr : r < 4) : bx ((outQ q 4).getD (4 * ((c + r) % 4) + r) 0) = (outQ (trnQ q) 4).getD (4 * c + r) 0 := by
  rw [outQ4, outQ4]
  rcases c with _ | _ | _ | _ | c
  · rcases r with _ | _ | _ | _ | r
    · exact (B3_bx _ _ _ _).symm
    · exact (B2_bx _ _ _ _).symm
    · exact (B1_bx _ _ _ _).symm
    · exact (B0_bx _ _ _ _).symm
    · omega
  · rcases r with _ | _ | _ | _ | r
    · exact (B3_bx _ _ _ _).symm
    · exact (B2_bx _ _ _ _).symm
    · exact (B1_bx _ _ _ _).symm
    · exact (B0_bx _ _ _ _).symm
    · omega
  · rcases r with _ | _ | _ | _ | r
    · exact (B3_bx _ _ _ _).symm
    · exact (B2_bx _ _ _ _).symm
    · exact (B1_bx _ _ _ _).symm
    · exact (B0_bx _ _ _ _).symm
    · omega
  · rcases r with _ | _ | _ | _ | r
    · exact (B3_bx _ _ _ _).symm
    · exact (B2_bx _ _ _ _).symm
    · exact (B1_bx _ _ _ _).symm
    · exact (B0_bx _ _ _ _).symm
    · omega
  · omega
theorem B3_mix (x : BitVec 32) : B3 (mixW x) = pr (B3 x) 2 ^^^ pr (B2 x) 3 ^^^ B1 x ^^^ B0 x := by
  have h := mix_wo (B3 x) (B2 x) (B1 x) (B0 x)
  rw [wo_B] at h
  rw [h, B3_wo, pr_two, pr_three]
theorem B2_mix (x : BitVec 32) : B2 (mixW x) = pr (B2 x) 2 ^^^ pr (B1 x) 3 ^^^ B0 x ^^^ B3 x := by
  have h := mix_wo (B3 x) (B2 x) (B1 x) (B0 x)
  rw [wo_B] at h
  rw [h, B2_wo, pr_two, pr_three]
  ac_rfl
theorem B1_mix (x : BitVec 32) : B1 (mixW x) = pr (B1 x) 2 ^^^ pr (B0 x) 3 ^^^ B3 x ^^^ B2 x := by
  have h := mix_wo (B3 x) (B2 x) (B1 x) (B0 x)
  rw [wo_B] at h
  rw [h, B1_wo, pr_two, pr_three]
  ac_rfl
theorem B0_mix (x : BitVec 32) : B0 (mixW x) = pr (B0 x) 2 ^^^ pr (B3 x) 3 ^^^ B2 x ^^^ B1 x := by
  have h := mix_wo (B3 x) (B2 x) (B1 x) (B0 x)
  rw [wo_B] at h
  rw [h, B0_wo, pr_two, pr_three]
  ac_rfl
theorem mix_byte (q : Q4) (c r : Nat) (hc : c < 4) (hr : r < 4) (l : List UInt8) (hl : l = [(outQ q 4).getD (4 * c) 0, (outQ q 4).getD (4 * c + 1) 0, (outQ q 4).getD (4 * c + 2) 0, (outQ q 4).getD (4 * c + 3) 0]) :
    pr (l.getD r 0) 2 ^^^ pr (l.getD ((r + 1) % 4) 0) 3 ^^^ l.getD ((r + 2) % 4) 0 ^^^ l.getD ((r + 3) % 4) 0 = (outQ (mixQ q) 4).getD (4 * c + r) 0 := by
  subst hl
  rw [outQ4, outQ4]
  rcases c with _ | _ | _ | _ | c
  · rcases r with _ | _ | _ | _ | r
    · exact (B3_mix _).symm
    · exact (B2_mix _).symm
    · exact (B1_mix _).symm
    · exact (B0_mix _).symm
    · omega
  · rcases r with _ | _ | _ | _ | r
    · exact (B3_mix _).symm
    · exact (B2_mix _).symm
    · exact (B1_mix _).symm
    · exact (B0_mix _).symm
    · omega
  · rcases r with _ | _ | _ | _ | r
    · exact (B3_mix _).symm
    · exact (B2_mix _).symm
    · exact (B1_mix _).symm
    · exact (B0_mix _).symm
    · omega
  · rcases r with _ | _ | _ | _ | r
    · exact (B3_mix _).symm
    · exact (B2_mix _).symm
    · exact (B1_mix _).symm
    · exact (B0_mix _).symm
    · omega
  · omega
/-- bytes of a text's columns -/
theorem out_col (s : ByteArray) (hs : s.size = 16) : outQ (colS s) 4 = bl s := by
  have e : ∀ i, i < 16 → (outQ (colS s) 4).getD i 0 = (bl s).getD i 0 := by
    intro i hi
    rw [outQ4]
    unfold colS
    rw [wS_ext s 0, wS_ext s 4, wS_ext s 8, wS_ext s 12]
    simp only [B3_wo, B2_wo, B1_wo, B0_wo]
    rcases i with _ | _ | _ | _ | _ | _ | _ | _ | _ | _ | _ | _ | _ | _ | _ | _ | i
    all_goals first | rfl | omega
  apply List.ext_getElem (by rw [o16, bl_len, hs])
  intro i h1 h2
  have h := e i (by rw [o16] at h1; exact h1)
  rw [List.getD_eq_getElem?_getD, List.getD_eq_getElem?_getD, List.getElem?_eq_getElem h1, List.getElem?_eq_getElem h2] at h
  exact h
theorem flat_cell (kw : List (BitVec 32)) (n i o : Nat) (hn : n < kw.length) (hi : i < 4) (ho : o = n * 4 + i) : (bc (flatW kw))[o]? = some (by8 ((w4 (kw.getD n 0)).getD i 0)) := by
  subst ho
  unfold bc
  rw [List.getElem?_toArray, List.getElem?_map, flat_get kw n i hn hi]
  rfl
end Go.Proofs.Ythljhhhjdajfhaa
