/-
  The tables of a hello, a reply (address 4).
-/
import Derived.Test.YtcjjbpbehapjpaaGreatS6
namespace Go.Proofs.YtcjjbpbehapjpaaGreat
open Go.RowKit

def tT : List Ent := [.nm 0,
  .nm 1,
  .mk 3 0 { data := #[] } [0] 0,
  .mk 3 0 { data := #[] } [1] 0,
  .nm 2,
  .mk 3 0 { data := #[] } [4] 0,
  .mk 4 0 { data := #[] } [1, 4] 0,
  .mk 4 0 { data := #[] } [0, 1] 0,
  .dt { data := #[0, 0, 0, 8, 240, 84, 82, 77, 0, 0, 0, 6, 0, 0, 0, 8, 240, 84, 82, 77, 0, 0, 0, 7] },
  .dt { data := #[] },
  .mk 5 0 { data := #[115, 104, 97, 107, 101, 32, 104, 101, 108, 108, 111, 0] } [8, 9] 0,
  .dt { data := #[0, 4, 0, 0, 0, 8, 240, 84, 82, 77, 0, 0, 0, 5] },
  .mk 6 0 { data := #[] } [10, 9, 11, 9] 0,
  .nm 3,
  .mk 3 0 { data := #[] } [13] 0,
  .mk 4 0 { data := #[] } [4, 13] 0,
  .mk 4 0 { data := #[] } [0, 13] 0,
  .dt { data := #[0, 4, 0, 0, 0, 8, 240, 84, 82, 77, 0, 0, 0, 5, 0, 0, 0, 8, 240, 84, 82, 77, 0, 0, 0, 12] },
  .dt { data := #[0, 0, 0, 8, 240, 84, 82, 77, 0, 0, 0, 14] },
  .mk 5 0 { data := #[100, 105, 103, 101, 115, 116] } [17, 18] 0,
  .dt { data := #[0, 0, 0, 8, 240, 84, 82, 77, 0, 0, 0, 6, 0, 0, 0, 8, 240, 84, 82, 77, 0, 0, 0, 7, 0, 0, 0, 8, 240, 84, 82, 77, 0, 0, 0, 15, 0, 0, 0, 8, 240, 84, 82, 77, 0, 0, 0, 16] },
  .mk 5 0 { data := #[115, 104, 97, 107, 101, 32, 107, 101, 121, 115, 0] } [20, 19] 0,
  .mk 5 0 { data := #[115, 104, 97, 107, 101, 32, 107, 101, 121, 115, 1] } [20, 19] 0,
  .mk 5 0 { data := #[115, 104, 97, 107, 101, 32, 107, 101, 121, 115, 2] } [20, 19] 0,
  .mk 6 0 { data := #[] } [23, 9, 18, 9] 0,
  .nm 4,
  .mk 3 0 { data := #[] } [25] 0,
  .mk 4 0 { data := #[] } [4, 25] 0,
  .mk 4 0 { data := #[] } [0, 25] 0,
  .dt { data := #[0, 0, 0, 8, 240, 84, 82, 77, 0, 0, 0, 26] },
  .mk 5 0 { data := #[100, 105, 103, 101, 115, 116] } [17, 29] 0,
  .dt { data := #[0, 0, 0, 8, 240, 84, 82, 77, 0, 0, 0, 6, 0, 0, 0, 8, 240, 84, 82, 77, 0, 0, 0, 7, 0, 0, 0, 8, 240, 84, 82, 77, 0, 0, 0, 27, 0, 0, 0, 8, 240, 84, 82, 77, 0, 0, 0, 28] },
  .mk 5 0 { data := #[115, 104, 97, 107, 101, 32, 107, 101, 121, 115, 0] } [31, 30] 0,
  .mk 5 0 { data := #[115, 104, 97, 107, 101, 32, 107, 101, 121, 115, 1] } [31, 30] 0,
  .mk 5 0 { data := #[115, 104, 97, 107, 101, 32, 107, 101, 121, 115, 2] } [31, 30] 0,
  .mk 6 0 { data := #[] } [34, 9, 29, 9] 0]
def tk (k : Nat) : List Ent := tT.take k
theorem tk_lt (k : Nat) : (tk k).length < 50000 := Nat.lt_of_le_of_lt (List.length_take_le' _ _) (by decide)
theorem tx_le (k : Nat) : (txt k).size ≤ 10000 := by rw [txt_size]; decide
theorem tx_l6 (k : Nat) : (txt k).size ≤ 60000 := by rw [txt_size]; decide
theorem b1 : mkA (frA (tk 4)) 3 { data := #[] } [txt (tk 4).length] = (tk 6, 5) := by kernel_rfl
theorem b2 : mkA (tk 6) 4 { data := #[] } [txt (tk 4).length, txt 3] = (tk 7, 6) := by kernel_rfl
theorem b3 : mkA (tk 7) 4 { data := #[] } [txt 0, txt 3] = (tk 8, 7) := by kernel_rfl
theorem b4 : dv (tk 8) (layT [txt 6, txt 7] 2) { data := #[] } hI 1 = (tk 11, [txt 10]) := by kernel_rfl
theorem b5 : mkA (tk 11) 6 { data := #[] } [txt 10, { data := #[] }, adrT 4 ++ layT [txt 5] 1, { data := #[] }] = (tk 13, 12) := by kernel_rfl
def hello0 : ByteArray := (adrT 4 ++ layT [txt 5] 1) ++ layT [txt 12] 1
def reply0 : ByteArray := layT [txt 14] 1 ++ layT [txt 24] 1
theorem r1 : rdHello hello0 = some (4, txt 5, txt 12) := by kernel_rfl
theorem r2 : rdTold (bl reply0) = some (txt 14, txt 24) := by kernel_rfl
theorem h0_size : hello0.size = 26 := by kernel_rfl
theorem y0_size : reply0.size = 24 := by kernel_rfl
theorem c1_13 : mkA (tk 13) 4 { data := #[] } [txt 1, txt 5] = (tk 13, 6) := by kernel_rfl
theorem c2_13 : mkA (tk 13) 4 { data := #[] } [txt 1, txt 2] = (tk 13, 7) := by kernel_rfl
theorem c3_13 : dv (tk 13) (layT [txt 6, txt 7] 2) { data := #[] } hI 1 = (tk 13, [txt 10]) := by kernel_rfl
theorem c4_13 : opnA (tk 13) (txt 10) { data := #[] } (adrT 4 ++ layT [txt 5] 1) (txt 12) = some { data := #[] } := by kernel_rfl
theorem c1_25 : mkA (tk 25) 4 { data := #[] } [txt 1, txt 5] = (tk 25, 6) := by kernel_rfl
theorem c2_25 : mkA (tk 25) 4 { data := #[] } [txt 1, txt 2] = (tk 25, 7) := by kernel_rfl
theorem c3_25 : dv (tk 25) (layT [txt 6, txt 7] 2) { data := #[] } hI 1 = (tk 25, [txt 10]) := by kernel_rfl
theorem c4_25 : opnA (tk 25) (txt 10) { data := #[] } (adrT 4 ++ layT [txt 5] 1) (txt 12) = some { data := #[] } := by kernel_rfl
theorem a1_13 : mkA (frA (tk 13)) 3 { data := #[] } [txt (tk 13).length] = (tk 15, 14) := by kernel_rfl
theorem a2_13 : mkA (tk 15) 4 { data := #[] } [txt (tk 13).length, txt 5] = (tk 16, 15) := by kernel_rfl
theorem a3_13 : mkA (tk 16) 4 { data := #[] } [txt (tk 13).length, txt 2] = (tk 17, 16) := by kernel_rfl
theorem a4_13 : mkA (tk 17) 5 { data := #[100, 105, 103, 101, 115, 116] } [hello0, layT [txt 14] 1] = (tk 20, 19) := by kernel_rfl
theorem a5_13 : dv (tk 20) (layT [txt 6, txt 7, txt 15, txt 16] 4) (txt 19) kI 3 = (tk 24, [txt 21, txt 22, txt 23]) := by kernel_rfl
theorem a6_13 : mkA (tk 24) 6 { data := #[] } [txt 23, { data := #[] }, layT [txt 14] 1, { data := #[] }] = (tk 25, 24) := by kernel_rfl
theorem a1_25 : mkA (frA (tk 25)) 3 { data := #[] } [txt (tk 25).length] = (tk 27, 26) := by kernel_rfl
theorem a2_25 : mkA (tk 27) 4 { data := #[] } [txt (tk 25).length, txt 5] = (tk 28, 27) := by kernel_rfl
theorem a3_25 : mkA (tk 28) 4 { data := #[] } [txt (tk 25).length, txt 2] = (tk 29, 28) := by kernel_rfl
theorem a4_25 : mkA (tk 29) 5 { data := #[100, 105, 103, 101, 115, 116] } [hello0, layT [txt 26] 1] = (tk 31, 30) := by kernel_rfl
theorem a5_25 : dv (tk 31) (layT [txt 6, txt 7, txt 27, txt 28] 4) (txt 30) kI 3 = (tk 35, [txt 32, txt 33, txt 34]) := by kernel_rfl
theorem a6_25 : mkA (tk 35) 6 { data := #[] } [txt 34, { data := #[] }, layT [txt 26] 1, { data := #[] }] = (tk 36, 35) := by kernel_rfl
theorem f1_25 : mkA (tk 25) 4 { data := #[] } [txt (tk 4).length, txt 14] = (tk 25, 15) := by kernel_rfl
theorem f2_25 : mkA (tk 25) 4 { data := #[] } [txt 0, txt 14] = (tk 25, 16) := by kernel_rfl
theorem f3_25 : mkA (tk 25) 5 { data := #[100, 105, 103, 101, 115, 116] } [hello0, layT [txt 14] 1] = (tk 25, 19) := by kernel_rfl
theorem f4_25 : dv (tk 25) (layT [txt 6, txt 7, txt 15, txt 16] 4) (txt 19) kI 3 = (tk 25, [txt 21, txt 22, txt 23]) := by kernel_rfl
theorem f5_25 : opnA (tk 25) (txt 23) { data := #[] } (layT [txt 14] 1) (txt 24) = some { data := #[] } := by kernel_rfl
theorem f1_36 : mkA (tk 36) 4 { data := #[] } [txt (tk 4).length, txt 14] = (tk 36, 15) := by kernel_rfl
theorem f2_36 : mkA (tk 36) 4 { data := #[] } [txt 0, txt 14] = (tk 36, 16) := by kernel_rfl
theorem f3_36 : mkA (tk 36) 5 { data := #[100, 105, 103, 101, 115, 116] } [hello0, layT [txt 14] 1] = (tk 36, 19) := by kernel_rfl
theorem f4_36 : dv (tk 36) (layT [txt 6, txt 7, txt 15, txt 16] 4) (txt 19) kI 3 = (tk 36, [txt 21, txt 22, txt 23]) := by kernel_rfl
theorem f5_36 : opnA (tk 36) (txt 23) { data := #[] } (layT [txt 14] 1) (txt 24) = some { data := #[] } := by kernel_rfl
end Go.Proofs.YtcjjbpbehapjpaaGreat
