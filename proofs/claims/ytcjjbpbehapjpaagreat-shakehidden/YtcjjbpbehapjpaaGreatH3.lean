/-
  What is known of four connections: reckoned.
-/
import Derived.Test.YtcjjbpbehapjpaaGreatH2
namespace Go.Proofs.YtcjjbpbehapjpaaGreat
open Go.RowKit

def kS1 : List Bool := [false, false, true, true, false, true, false, false, false, true, false, true, true, false, true, false, false, true, true, true, false, false, false, false, true]
def kA1 : List Bool := [true, true, true, true, false, true, true, true, true, true, true, true, true, false, true, false, true, true, true, true, false, false, false, false, true]
theorem kS1_eq : knoI 1 (seenL 1) = kS1 := by kernel_rfl
theorem kA1_eq : knoI 1 (allL 1) = kA1 := by kernel_rfl
theorem kC1 : chkH 1 kS1 kA1 = true := by kernel_rfl
theorem hkl1 : (hk 1).length = lnF 1 := by kernel_rfl
def kS2 : List Bool := [false, false, true, true, false, true, false, false, false, true, false, true, true, false, true, false, false, true, true, true, false, false, false, false, true, false, true, false, false, false, true, true, false, true, false, false, true, true, true, false, false, false, false, true]
def kA2 : List Bool := [true, true, true, true, false, true, true, true, true, true, true, true, true, false, true, false, true, true, true, true, false, false, false, false, true, false, true, true, true, true, true, true, false, true, false, true, true, true, true, false, false, false, false, true]
theorem kS2_eq : knoI 2 (seenL 2) = kS2 := by kernel_rfl
theorem kA2_eq : knoI 2 (allL 2) = kA2 := by kernel_rfl
theorem kC2 : chkH 2 kS2 kA2 = true := by kernel_rfl
theorem hkl2 : (hk 2).length = lnF 2 := by kernel_rfl
def kS3 : List Bool := [false, false, true, true, false, true, false, false, false, true, false, true, true, false, true, false, false, true, true, true, false, false, false, false, true, false, true, false, false, false, true, true, false, true, false, false, true, true, true, false, false, false, false, true, false, true, false, false, false, true, true, false, true, false, false, true, true, true, false, false, false, false, true]
def kA3 : List Bool := [true, true, true, true, false, true, true, true, true, true, true, true, true, false, true, false, true, true, true, true, false, false, false, false, true, false, true, true, true, true, true, true, false, true, false, true, true, true, true, false, false, false, false, true, false, true, true, true, true, true, true, false, true, false, true, true, true, true, false, false, false, false, true]
theorem kS3_eq : knoI 3 (seenL 3) = kS3 := by kernel_rfl
theorem kA3_eq : knoI 3 (allL 3) = kA3 := by kernel_rfl
theorem kC3 : chkH 3 kS3 kA3 = true := by kernel_rfl
theorem hkl3 : (hk 3).length = lnF 3 := by kernel_rfl
def kS4 : List Bool := [false, false, true, true, false, true, false, false, false, true, false, true, true, false, true, false, false, true, true, true, false, false, false, false, true, false, true, false, false, false, true, true, false, true, false, false, true, true, true, false, false, false, false, true, false, true, false, false, false, true, true, false, true, false, false, true, true, true, false, false, false, false, true, false, true, false, false, false, true, true, false, true, false, false, true, true, true, false, false, false, false, true]
def kA4 : List Bool := [true, true, true, true, false, true, true, true, true, true, true, true, true, false, true, false, true, true, true, true, false, false, false, false, true, false, true, true, true, true, true, true, false, true, false, true, true, true, true, false, false, false, false, true, false, true, true, true, true, true, true, false, true, false, true, true, true, true, false, false, false, false, true, false, true, true, true, true, true, true, false, true, false, true, true, true, true, false, false, false, false, true]
theorem kS4_eq : knoI 4 (seenL 4) = kS4 := by kernel_rfl
theorem kA4_eq : knoI 4 (allL 4) = kA4 := by kernel_rfl
theorem kC4 : chkH 4 kS4 kA4 = true := by kernel_rfl
theorem hkl4 : (hk 4).length = lnF 4 := by kernel_rfl
theorem hid {N : Nat} (h1 : 1 ≤ N) (h4 : N ≤ 4) : (hk N).length = lnF N ∧ chkH N (knownF (hk N) (seenL N)) (knownF (hk N) (allL N)) = true := by
  obtain rfl | rfl | rfl | rfl : N = 1 ∨ N = 2 ∨ N = 3 ∨ N = 4 := by omega
  · exact ⟨hkl1, by rw [kno_eq hkl1, kno_eq hkl1, kS1_eq, kA1_eq]; exact kC1⟩
  · exact ⟨hkl2, by rw [kno_eq hkl2, kno_eq hkl2, kS2_eq, kA2_eq]; exact kC2⟩
  · exact ⟨hkl3, by rw [kno_eq hkl3, kno_eq hkl3, kS3_eq, kA3_eq]; exact kC3⟩
  · exact ⟨hkl4, by rw [kno_eq hkl4, kno_eq hkl4, kS4_eq, kA4_eq]; exact kC4⟩
theorem hid_at {N i : Nat} (h1 : 1 ≤ N) (h4 : N ≤ 4) (hi : i < 2 * N) : wth (hk N).length ((keysL N).getD i ByteArray.empty) = [kn i] ∧ (knownF (hk N) (seenL N)).getD (kn i) true = false ∧ (knownF (hk N) (allL N)).getD (kn i) true = false := by
  obtain ⟨hl, hc⟩ := hid h1 h4
  have h := List.all_eq_true.1 hc i (List.mem_range.2 hi)
  simp only [Bool.and_eq_true, beq_iff_eq] at h
  rw [hl, wth_2]
  exact ⟨h.1.1, h.1.2, h.2⟩
end Go.Proofs.YtcjjbpbehapjpaaGreat
