/-
  The document's own reader: New, Number, Text, Take and Left by what they answer and what they leave.
-/
import Derived.Test.YtdgjdfpblenogaaApart
namespace Go.Proofs.Ytdgjdfpblenogaa
open Go.RowKit

set_option maxHeartbeats 1000000 in
theorem value_any (w : World) (s : ByteArray) (hs : s.size ≤ 8) :
    Calls Try.prog 32 #[.string s] w fun e w' => e = .returned (.int .u64 (val s.data.toList)) ∧ w' = w := by
  have hsl := hide (str_length s)
  go_enter Try.func32, Try.ntmps32
  go_wp2_with fail
  go_loop [3, 4] (fun v i => ∃ k : Nat, k ≤ s.size ∧ i = .int .i64 k ∧ v = .int .u64 (val (s.data.toList.take k))) (fun _ i => s.size - (intOf i).toNat)
  case atStart => exact ⟨0, Nat.zero_le _, rfl, rfl⟩
  case round =>
    obtain ⟨k, hk, rfl, rfl⟩ := hrel
    by_cases hlt : k < s.size
    · have hkb : k < s.data.toList.length := by rw [hsl.out]; exact hlt
      have HV : Hid (val (s.data.toList.take (k + 1)) = val (s.data.toList.take k) * 256 + (s[k]'hlt).toNat) := by
        have := val_take s.data.toList k hkb
        rw [str_get s k hlt hkb] at this
        exact this
      have hb : val (s.data.toList.take k) < 72057594037927936 := by
        have := val_lt (s.data.toList.take k)
        have h2 : 256 ^ (s.data.toList.take k).length ≤ 256 ^ 7 := Nat.pow_le_pow_right (by decide) (by rw [List.length_take]; omega)
        have h3 : (256 : Nat) ^ 7 = 72057594037927936 := by decide
        omega
      clear hkb
      generalize val (s.data.toList.take k) = V at *
      go_wp2
      go_round
      case rel => exact ⟨k + 1, by omega, by go_num, int_eq (by rw [HV.out]; exact join8 V _ hb (UInt8.toNat_lt _))⟩
      case measure => simp [intOf]; omega
    · go_wp2
      go_ret
      exact ⟨by rw [List.take_of_length_le (by rw [hsl.out]; omega)]; rfl, rfl⟩

theorem ext_take (s : ByteArray) (n : Nat) : (s.extract 0 n).data.toList = s.data.toList.take n := by
  rw [ByteArray.data_extract]; simp

theorem ext_drop (s : ByteArray) (n : Nat) : (s.extract n s.size).data.toList = s.data.toList.drop n := by
  rw [ByteArray.data_extract, Array.toList_extract]
  show List.take (s.data.size - n) (List.drop n s.data.toList) = _
  rw [List.take_of_length_le]
  rw [List.length_drop, Array.length_toList]
  exact Nat.le_refl _

theorem ext_mid (s : ByteArray) (n : Nat) : (s.extract 4 (4 + n)).data.toList = (s.data.toList.drop 4).take n := by
  rw [ByteArray.data_extract, Array.toList_extract]
  show List.take (4 + n - 4) (List.drop 4 s.data.toList) = _
  rw [Nat.add_sub_cancel_left]

theorem rNumber_yes (w : World) (b n : Nat) (s : ByteArray) (hc : w.cell? ⟨b, 0, none⟩ = some (.string s)) (hf : w.frozen? ⟨b, 0, none⟩ = false) (h1 : 1 ≤ n) (h8 : n ≤ 8) (hn : n ≤ s.size) :
    Calls Try.prog 20 #[.pointer (some ⟨b, 0, none⟩), .int .i64 n] w fun e w' =>
      e = .returned (.tuple #[.int .u64 (val (s.data.toList.take n)), .bool true]) ∧ w' = w.setCell ⟨b, 0, none⟩ (.string (s.extract n s.size)) := by
  have V : Hid (Calls Try.prog 32 #[.string (s.extract 0 n)] w fun e w' => e = .returned (.int .u64 (val (s.data.toList.take n))) ∧ w' = w) := by
    have := value_any w (s.extract 0 n) (by rw [ByteArray.size_extract]; omega)
    rw [ext_take] at this
    exact this
  go_enter Try.func20, Try.ntmps20
  go_wp2_with fail
  refine V.out.mono ?_
  rintro e w1 ⟨rfl, rfl⟩
  clear V
  go_wp2
  go_ret2
  exact ⟨rfl, rfl⟩

theorem rNumber_no (w : World) (b : Nat) (n : Int) (s : ByteArray) (hc : w.cell? ⟨b, 0, none⟩ = some (.string s)) (h : n < 1 ∨ 8 < n ∨ (s.size : Int) < n) :
    Calls Try.prog 20 #[.pointer (some ⟨b, 0, none⟩), .int .i64 n] w fun e w' =>
      e = .returned (.tuple #[.int .u64 0, .bool false]) ∧ w' = w := by
  by_cases a1 : n < 1
  · clear h
    go_enter Try.func20, Try.ntmps20
    go_wp2
    all_goals go_ret2
    all_goals exact ⟨rfl, rfl⟩
  by_cases a2 : 8 < n
  · clear h
    go_enter Try.func20, Try.ntmps20
    go_wp2
    all_goals go_ret2
    all_goals exact ⟨rfl, rfl⟩
  have a3 : (s.size : Int) < n := by omega
  clear h
  go_enter Try.func20, Try.ntmps20
  go_wp2
  all_goals go_ret2
  all_goals exact ⟨rfl, rfl⟩

theorem rTake_yes (w : World) (b n : Nat) (s : ByteArray) (hc : w.cell? ⟨b, 0, none⟩ = some (.string s)) (hf : w.frozen? ⟨b, 0, none⟩ = false) (hn : n ≤ s.size) :
    Calls Try.prog 24 #[.pointer (some ⟨b, 0, none⟩), .int .i64 n] w fun e w' =>
      e = .returned (.tuple #[.string (s.extract 0 n), .bool true]) ∧ w' = w.setCell ⟨b, 0, none⟩ (.string (s.extract n s.size)) := by
  go_enter Try.func24, Try.ntmps24
  go_wp2
  all_goals go_ret2
  all_goals exact ⟨rfl, rfl⟩

theorem rTake_no (w : World) (b : Nat) (n : Int) (s : ByteArray) (hc : w.cell? ⟨b, 0, none⟩ = some (.string s)) (h : n < 0 ∨ (s.size : Int) < n) :
    Calls Try.prog 24 #[.pointer (some ⟨b, 0, none⟩), .int .i64 n] w fun e w' =>
      e = .returned (.tuple #[.string ⟨#[]⟩, .bool false]) ∧ w' = w := by
  by_cases a1 : n < 0
  · clear h
    go_enter Try.func24, Try.ntmps24
    go_wp2
    all_goals go_ret2
    all_goals exact ⟨rfl, rfl⟩
  have a3 : (s.size : Int) < n := by omega
  clear h
  go_enter Try.func24, Try.ntmps24
  go_wp2
  all_goals go_ret2
  all_goals exact ⟨rfl, rfl⟩

theorem rLeft_any (w : World) (b : Nat) (s : ByteArray) (hc : w.cell? ⟨b, 0, none⟩ = some (.string s)) :
    Calls Try.prog 26 #[.pointer (some ⟨b, 0, none⟩)] w fun e w' => e = .returned (.int .i64 s.size) ∧ w' = w := by
  go_enter Try.func26, Try.ntmps26
  go_wp2
  go_ret
  exact ⟨rfl, rfl⟩

theorem rNew_any (w : World) (s : ByteArray) :
    Calls Try.prog 18 #[.string s] w fun e w' => e = .returned (.pointer (some ⟨w.heap.size, 0, none⟩)) ∧ w' = w.alloc (.cells #[.string s] 57) := by
  go_enter Try.func18, Try.ntmps18
  go_wp2
  go_ret
  exact ⟨rfl, rfl⟩

set_option maxHeartbeats 1000000 in
theorem rText_yes (w : World) (b most : Nat) (s : ByteArray) (hc : w.cell? ⟨b, 0, none⟩ = some (.string s)) (hf : w.frozen? ⟨b, 0, none⟩ = false) (hs : s.size ≤ 1000000) (h4 : 4 ≤ s.size) (hm : val (s.data.toList.take 4) ≤ most) (hw : 4 + val (s.data.toList.take 4) ≤ s.size) (hmm : most < 9223372036854775808) :
    Calls Try.prog 22 #[.pointer (some ⟨b, 0, none⟩), .int .i64 most] w fun e w' =>
      e = .returned (.tuple #[.string (s.extract 4 (4 + val (s.data.toList.take 4))), .bool true]) ∧ w' = w.setCell ⟨b, 0, none⟩ (.string (s.extract (4 + val (s.data.toList.take 4)) s.size)) := by
  have V : Hid (Calls Try.prog 32 #[.string (s.extract 0 4)] w fun e w' => e = .returned (.int .u64 (val (s.data.toList.take 4))) ∧ w' = w) := by
    have := value_any w (s.extract 0 4) (by rw [ByteArray.size_extract]; omega)
    rw [ext_take] at this
    exact this
  have h32 := val4_lt s.data.toList
  generalize val (s.data.toList.take 4) = n at *
  go_enter Try.func22, Try.ntmps22
  go_wp2_with fail
  refine V.out.mono ?_
  rintro e w1 ⟨rfl, rfl⟩
  clear V
  go_wp2
  go_ret2
  exact ⟨rfl, rfl⟩

set_option maxHeartbeats 1000000 in
theorem rText_no (w : World) (b : Nat) (most : Int) (s : ByteArray) (hc : w.cell? ⟨b, 0, none⟩ = some (.string s)) (hs : s.size ≤ 1000000) (hlo : -9223372036854775808 ≤ most) (hmm : most < 9223372036854775808)
    (h : s.size < 4 ∨ most < 0 ∨ most < val (s.data.toList.take 4) ∨ s.size < 4 + val (s.data.toList.take 4)) :
    Calls Try.prog 22 #[.pointer (some ⟨b, 0, none⟩), .int .i64 most] w fun e w' =>
      e = .returned (.tuple #[.string ⟨#[]⟩, .bool false]) ∧ w' = w := by
  by_cases h4 : s.size < 4
  · clear h
    go_enter Try.func22, Try.ntmps22
    go_wp2
    all_goals go_ret2
    all_goals exact ⟨rfl, rfl⟩
  by_cases h5 : most < 0
  · clear h
    go_enter Try.func22, Try.ntmps22
    go_wp2
    all_goals go_ret2
    all_goals exact ⟨rfl, rfl⟩
  have V : Hid (Calls Try.prog 32 #[.string (s.extract 0 4)] w fun e w' => e = .returned (.int .u64 (val (s.data.toList.take 4))) ∧ w' = w) := by
    have := value_any w (s.extract 0 4) (by rw [ByteArray.size_extract]; omega)
    rw [ext_take] at this
    exact this
  have h32 := val4_lt s.data.toList
  generalize val (s.data.toList.take 4) = n at *
  obtain ⟨m, rfl⟩ := Int.eq_ofNat_of_zero_le (Int.not_lt.1 h5)
  have hm63 : m < 9223372036854775808 := by omega
  clear hlo hmm h5
  by_cases h6 : m < n
  · clear h
    go_enter Try.func22, Try.ntmps22
    go_wp2_with fail
    refine V.out.mono ?_
    rintro e w1 ⟨rfl, rfl⟩
    clear V
    go_wp2
    all_goals go_ret2
    all_goals exact ⟨rfl, rfl⟩
  have h7 : s.size < 4 + n := by omega
  clear h
  go_enter Try.func22, Try.ntmps22
  go_wp2_with fail
  refine V.out.mono ?_
  rintro e w1 ⟨rfl, rfl⟩
  clear V
  go_wp2
  all_goals go_ret2
  all_goals exact ⟨rfl, rfl⟩
end Go.Proofs.Ytdgjdfpblenogaa
