/-
  The box, reckoned.
-/
import Derived.Test.YthljhhhjdajfhaaR0
namespace Go.Proofs.Ythljhhhjdajfhaa
open Go.RowKit

def invN : List Nat := [0, 1, 141, 246, 203, 82, 123, 209, 232, 79, 41, 192, 176, 225, 229, 199, 116, 180, 170, 75, 153, 43, 96, 95, 88, 63, 253, 204, 255, 64, 238, 178, 58, 110, 90, 241, 85, 77, 168, 201, 193, 10, 152, 21, 48, 68, 162, 194, 44, 69, 146, 108, 243, 57, 102, 66, 242, 53, 32, 111, 119, 187, 89, 25, 29, 254, 55, 103, 45, 49, 245, 105, 167, 100, 171, 19, 84, 37, 233, 9, 237, 92, 5, 202, 76, 36, 135, 191, 24, 62, 34, 240, 81, 236, 97, 23, 22, 94, 175, 211, 73, 166, 54, 67, 244, 71, 145, 223, 51, 147, 33, 59, 121, 183, 151, 133, 16, 181, 186, 60, 182, 112, 208, 6, 161, 250, 129, 130, 131, 126, 127, 128, 150, 115, 190, 86, 155, 158, 149, 217, 247, 2, 185, 164, 222, 106, 50, 109, 216, 138, 132, 114, 42, 20, 159, 136, 249, 220, 137, 154, 251, 124, 46, 195, 143, 184, 101, 72, 38, 200, 18, 74, 206, 231, 210, 98, 12, 224, 31, 239, 17, 117, 120, 113, 165, 142, 118, 61, 189, 188, 134, 87, 11, 40, 47, 163, 218, 212, 228, 15, 169, 39, 83, 4, 27, 252, 172, 230, 122, 7, 174, 99, 197, 219, 226, 234, 148, 139, 196, 213, 157, 248, 144, 107, 177, 13, 214, 235, 198, 14, 207, 173, 8, 78, 215, 227, 93, 80, 30, 179, 91, 35, 56, 52, 104, 70, 3, 140, 221, 156, 125, 160, 205, 26, 65, 28]
set_option maxRecDepth 100000 in
theorem pwN0 : ∀ n, n < 64 → pwN (n + 0) 254 = invN.getD (n + 0) 0 := by decide +kernel
set_option maxRecDepth 100000 in
theorem pwN1 : ∀ n, n < 64 → pwN (n + 64) 254 = invN.getD (n + 64) 0 := by decide +kernel
set_option maxRecDepth 100000 in
theorem pwN2 : ∀ n, n < 64 → pwN (n + 128) 254 = invN.getD (n + 128) 0 := by decide +kernel
set_option maxRecDepth 100000 in
theorem pwN3 : ∀ n, n < 64 → pwN (n + 192) 254 = invN.getD (n + 192) 0 := by decide +kernel
theorem pwN_all (n : Nat) (h : n < 256) : pwN n 254 = invN.getD n 0 := by
  rcases (by omega : n < 64 ∨ (64 ≤ n ∧ n < 128) ∨ (128 ≤ n ∧ n < 192) ∨ 192 ≤ n) with e | e | e | e
  · exact pwN0 n e
  · have := pwN1 (n - 64) (by omega)
    rwa [show n - 64 + 64 = n by omega] at this
  · have := pwN2 (n - 128) (by omega)
    rwa [show n - 128 + 128 = n by omega] at this
  · have := pwN3 (n - 192) (by omega)
    rwa [show n - 192 + 192 = n by omega] at this
set_option maxRecDepth 100000 in
theorem vb_all : ∀ n, n < 256 → vb (UInt8.ofNat (invN.getD n 0)) 8 = boxL.getD n 0 := by decide +kernel
theorem boxP_eq (n : Nat) (h : n < 256) : boxP (UInt8.ofNat n) = boxL.getD n 0 := by
  unfold boxP
  have e : pw (UInt8.ofNat n) 254 = UInt8.ofNat (invN.getD n 0) := by
    rw [← UInt8.ofNat_toNat (x := pw (UInt8.ofNat n) 254), pw_nat, UInt8.toNat_ofNat', Nat.mod_eq_of_lt h, pwN_all n h]
  rw [e, vb_all n h]
theorem bxs_take : ∀ k, k ≤ 256 → bxs k = boxL.take k
  | 0, _ => rfl
  | k + 1, h => by
    have hl : k < boxL.length := by rw [boxL_len]; omega
    rw [bxs, bxs_take k (by omega), List.take_add_one, List.getElem?_eq_getElem hl, boxP_eq k (by omega), List.getD_eq_getElem?_getD, List.getElem?_eq_getElem hl]
    rfl
theorem bxs_all : bxs 256 = boxL := by rw [bxs_take 256 (Nat.le_refl _), List.take_of_length_le (by rw [boxL_len]; omega)]
end Go.Proofs.Ythljhhhjdajfhaa
