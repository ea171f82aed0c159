/-
  X25519 at two texts of 9, evaluated.
-/
import Derived.Test.YtpaendmdcdeemaaDoorCuS
namespace Go.Proofs.YtpaendmdcdeemaaDoor
open Go.RowKit Num

/-- k bits more, from the highest on -/
def go4 (n u : Nat) : Nat → Nat → Nat → Nat → Nat → (Nat × Nat) × (Nat × Nat)
  | 0, a, b, c, d => ((a, b), (c, d))
  | k + 1, a, b, c, d => if n / 2 ^ k % 2 = 1 then go4 n u k (lsx a b c d) (lsz u a b c d) (dbx c d) (dbz c d) else go4 n u k (dbx a b) (dbz a b) (lsx a b c d) (lsz u a b c d)
theorem go4_lad (s : ByteArray) (u : Nat) : ∀ k m, k + m = 256 → go4 (numS s) u k (lad s u m).1.1 (lad s u m).1.2 (lad s u m).2.1 (lad s u m).2.2 = lad s u 256
  | 0, m, h => by rw [show m = 256 by omega]; rfl
  | k + 1, m, h => by
    have e : 255 - m = k := by omega
    unfold go4
    by_cases hb : numS s / 2 ^ k % 2 = 1
    · rw [if_pos hb, ← go4_lad s u k (m + 1) (by omega), lad_one s u m (by rw [e]; exact hb)]
    · rw [if_neg hb, ← go4_lad s u k (m + 1) (by omega), lad_nil s u m (by rw [e]; exact hb)]
theorem go4_lad0 (s : ByteArray) (u : Nat) : lad s u 256 = go4 (numS s) u 256 1 0 u 1 := (go4_lad s u 256 0 rfl).symm
def nine : ByteArray := ⟨(ofT 9 0).toArray⟩
theorem nine_num : numS (clampS nine) = 28948022309329048855892746252171976963317496166410141009864396001978282409992 := by decide +kernel
theorem nine_u : numS (topS nine) % P = 9 := by decide +kernel
theorem go_nine : mulP (go4 28948022309329048855892746252171976963317496166410141009864396001978282409992 9 256 1 0 9 1).1.1 (pm P 256 (go4 28948022309329048855892746252171976963317496166410141009864396001978282409992 9 256 1 0 9 1).1.2 (P - 2)) = 54815864700279561125610391355931320566748822376190344121911385527384361806914 := by decide +kernel
theorem x_nine : xP nine nine = 54815864700279561125610391355931320566748822376190344121911385527384361806914 := by
  unfold xP
  rw [nine_u, go4_lad0, nine_num, invE_pm]
  exact go_nine
def hexc : ByteArray := { data := #[52, 50, 50, 99, 56, 101, 55, 97, 54, 50, 50, 55, 100, 55, 98, 99, 97, 49, 51, 53, 48, 98, 51, 101, 50, 98, 98, 55, 50, 55, 57, 102, 55, 56, 57, 55, 98, 56, 55, 98, 98, 54, 56, 53, 52, 98, 55, 56, 51, 99, 54, 48, 101, 56, 48, 51, 49, 49, 97, 101, 51, 48, 55, 57] }
theorem x_text : bytesOf 54815864700279561125610391355931320566748822376190344121911385527384361806914 = ⟨(hexL hexc 32).toArray⟩ := by decide +kernel
theorem hexc_ok : Hexd hexc := fun i hi => by
  have h : ∀ i : Fin 64, 48 ≤ sb hexc i.1 ∧ sb hexc i.1 < 128 ∧ halfN (sb hexc i.1) < 16 := by decide +kernel
  exact h ⟨i, hi⟩
def two2 : ByteArray := ⟨(ofT 2 0).toArray⟩
def base2 : ByteArray := ⟨(ofT 88 102).toArray⟩
theorem two_of : ofP (topS two2) = some 2 := by decide +kernel
theorem two_bit : ¬ numS two2 / 2 ^ 255 % 2 = 1 := by decide +kernel
theorem base_of : ofP (topS base2) = some bY := by decide +kernel
theorem base_bit : ¬ numS base2 / 2 ^ 255 % 2 = 1 := by decide +kernel
theorem bsq_two : bsq 2 = 43446857792565604583783486763960003913525092658904367978015407342224011949000 := by unfold bsq; rw [invE_pm]; decide +kernel
theorem bsq_base : bsq bY = 26187595835145689230469591415084376402084551887632582719101735842039498021991 := by unfold bsq; rw [invE_pm]; decide +kernel
theorem root_two2 : rootP (bsq 2) = none := by rw [bsq_two, rootP_of]; decide +kernel
theorem root_base2 : rootP (bsq bY) = some bX := by rw [bsq_base, rootP_of]; decide +kernel
theorem base_text : bytesOf (addP (subP bY 1) 1) = base2 := by decide +kernel
theorem none_text : bytesOf (addP 0 1) = ⟨(ofT 1 0).toArray⟩ := by decide +kernel
end Go.Proofs.YtpaendmdcdeemaaDoor
