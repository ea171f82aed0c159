/-
  wire, the reference: numbers and texts laid, its reader.
-/
import Derived.Test.YtiogegoepgkjlaaWA

namespace Go.Proofs.Ytiogegoepgkjlaa.Wi
open Go.RowKit Go.Proofs

theorem str_size (l : List UInt8) : (⟨l.toArray⟩ : ByteArray).size = l.length := by
  show l.toArray.size = l.length
  simp
theorem str_get (s : ByteArray) (j : Nat) (h : j < s.size) (h' : j < s.data.toList.length) : s.data.toList[j] = s[j]'h := by
  rw [Array.getElem_toList]
  exact (rfl : s.data[j] = s[j]'h)
theorem conv_one (w : World) (x : Int) (c : UInt8) (h : x = (c.toNat : Int)) : (convert 64 9 (.slice (some ⟨w.heap.size, 0, none⟩) 1 1)).run Try.prog (w.alloc (.cells #[.int .u8 x] 5)) = .ok (.string ⟨#[c]⟩) (w.alloc (.cells #[.int .u8 x] 5)) := by
  subst h
  exact run_convert_bytes_back (P := Try.prog) (w.alloc (.cells #[.int .u8 (c.toNat : Int)] 5)) 64 9 5 ⟨w.heap.size, 0, none⟩ 1 [c] Try.underlying64 Try.underlying5 Try.underlying9 (fun j hj => by
    obtain rfl : j = 0 := by simpa using hj
    rw [Addr.add_lit]
    simp)
theorem snoc_str (acc : List UInt8) (c : UInt8) : (⟨acc.toArray⟩ : ByteArray) ++ ⟨#[c]⟩ = ⟨(acc ++ [c]).toArray⟩ := str_append acc ⟨#[c]⟩
set_option maxHeartbeats 1000000 in
set_option maxRecDepth 100000 in
theorem rput_mid (w : World) (s : ByteArray) (n : Nat) (v : Nat) (hs : s.size ≤ 1000000000) (h1 : 1 ≤ n) (h8 : n ≤ 8) :
    Calls Try.prog 80 #[.string s, .int .i64 n, .int .u64 v] w fun e w' =>
      e = .returned (.string ⟨(s.data.toList ++ be v n).toArray⟩) ∧ Below w.heap.size w w' := by
  have hsl := hide (str_length s)
  go_enter Try.func80, Try.ntmps80
  go_wp2_with fail
  go_loopw [0, 7] (fun o i wr => ∃ k : Nat, k ≤ n ∧ i = .int .i64 ((n : Int) - 1 - k) ∧ o = .string ⟨(s.data.toList ++ (be v n).take k).toArray⟩ ∧ Below w.heap.size w wr) (fun _ i _ => (intOf i + 1).toNat)
  case atStart => exact ⟨0, Nat.zero_le _, by simp, by simp, Below.refl _ _⟩
  case round =>
    obtain ⟨k, hk, rfl, rfl, hbel⟩ := hrel
    by_cases hlt : k < n
    · have hl : (s.data.toList ++ (be v n).take k).length = s.size + k := by
        rw [List.length_append, List.length_take, be_length, hsl.out]; omega
      have HT := hide (be_take v n k hlt)
      have hlen : (s.data.toList ++ (be v n).take k).length ≤ 1000000008 := by omega
      clear hl
      generalize hacc : s.data.toList ++ (be v n).take k = acc at *
      have HA := hide hacc
      clear hacc
      have hv := conv_one wr ((v : Int) / 2 ^ (8 * (n - 1 - k)) % 256) (UInt8.ofNat (v / 256 ^ (n - 1 - k))) (byte_eq v (n - 1 - k))
      have hone := str_size [UInt8.ofNat (v / 256 ^ (n - 1 - k))]
      have P2 : Below w.heap.size w (wr.alloc (.cells #[.int .u8 ((v : Int) / 2 ^ (8 * (n - 1 - k)) % 256)] 5)) := hbel.alloc hbel.size _
      go_wp2
      go_roundw
      case rel => exact ⟨k + 1, by omega, int_eq (by omega), by rw [snoc_str, ← HA.out, List.append_assoc, HT.out], P2⟩
      case measure => simp [intOf]; omega
    · have hke : k = n := by omega
      subst hke
      go_wp2
      go_ret
      exact ⟨by rw [List.take_of_length_le (by rw [be_length]; exact Nat.le_refl _)]; rfl, hbel⟩
set_option maxHeartbeats 1000000 in
set_option maxRecDepth 100000 in
theorem rput_low (w : World) (s : ByteArray) (bytes : Int) (v : Nat) (hs : s.size ≤ 1000000000) (h1 : bytes < 1) :
    Calls Try.prog 80 #[.string s, .int .i64 bytes, .int .u64 v] w fun e w' =>
      e = .returned (.string ⟨(s.data.toList ++ be v 1).toArray⟩) ∧ Below w.heap.size w w' := by
  have hsl := hide (str_length s)
  go_enter Try.func80, Try.ntmps80
  go_wp2_with fail
  go_loopw [0, 7] (fun o i wr => ∃ k : Nat, k ≤ 1 ∧ i = .int .i64 ((1 : Int) - 1 - k) ∧ o = .string ⟨(s.data.toList ++ (be v 1).take k).toArray⟩ ∧ Below w.heap.size w wr) (fun _ i _ => (intOf i + 1).toNat)
  case atStart => exact ⟨0, Nat.zero_le _, by simp, by simp, Below.refl _ _⟩
  case round =>
    obtain ⟨k, hk, rfl, rfl, hbel⟩ := hrel
    by_cases hlt : k < 1
    · obtain rfl : k = 0 := by omega
      have hl : (s.data.toList ++ (be v 1).take 0).length = s.size + 0 := by
        rw [List.length_append, List.length_take, be_length, hsl.out]; omega
      have HT := hide (be_take v 1 0 hlt)
      have hlen : (s.data.toList ++ (be v 1).take 0).length ≤ 1000000008 := by omega
      clear hl
      generalize hacc : s.data.toList ++ (be v 1).take 0 = acc at *
      have HA := hide hacc
      clear hacc
      have hv := conv_one wr ((v : Int) % 256) (UInt8.ofNat (v / 256 ^ (1 - 1 - 0))) (byte_eq0 v)
      have hone := str_size [UInt8.ofNat (v / 256 ^ (1 - 1 - 0))]
      have P2 : Below w.heap.size w (wr.alloc (.cells #[.int .u8 ((v : Int) % 256)] 5)) := hbel.alloc hbel.size _
      go_wp2
      go_roundw
      case rel => exact ⟨0 + 1, by omega, int_eq (by omega), by rw [snoc_str, ← HA.out, List.append_assoc, HT.out]; simp, P2⟩
      case measure => simp [intOf]
    · have hke : k = 1 := by omega
      subst hke
      go_wp2
      go_ret
      exact ⟨by rw [List.take_of_length_le (by rw [be_length]; exact Nat.le_refl _)]; rfl, hbel⟩
set_option maxHeartbeats 1000000 in
set_option maxRecDepth 100000 in
theorem rput_high (w : World) (s : ByteArray) (bytes : Int) (v : Nat) (hs : s.size ≤ 1000000000) (h8 : 8 < bytes) :
    Calls Try.prog 80 #[.string s, .int .i64 bytes, .int .u64 v] w fun e w' =>
      e = .returned (.string ⟨(s.data.toList ++ be v 8).toArray⟩) ∧ Below w.heap.size w w' := by
  have hsl := hide (str_length s)
  go_enter Try.func80, Try.ntmps80
  go_wp2_with fail
  go_loopw [0, 7] (fun o i wr => ∃ k : Nat, k ≤ 8 ∧ i = .int .i64 ((8 : Int) - 1 - k) ∧ o = .string ⟨(s.data.toList ++ (be v 8).take k).toArray⟩ ∧ Below w.heap.size w wr) (fun _ i _ => (intOf i + 1).toNat)
  case atStart => exact ⟨0, Nat.zero_le _, by simp, by simp, Below.refl _ _⟩
  case round =>
    obtain ⟨k, hk, rfl, rfl, hbel⟩ := hrel
    by_cases hlt : k < 8
    · have hl : (s.data.toList ++ (be v 8).take k).length = s.size + k := by
        rw [List.length_append, List.length_take, be_length, hsl.out]; omega
      have HT := hide (be_take v 8 k hlt)
      have hlen : (s.data.toList ++ (be v 8).take k).length ≤ 1000000008 := by omega
      clear hl
      generalize hacc : s.data.toList ++ (be v 8).take k = acc at *
      have HA := hide hacc
      clear hacc
      have hv := conv_one wr ((v : Int) / 2 ^ (8 * (8 - 1 - k)) % 256) (UInt8.ofNat (v / 256 ^ (8 - 1 - k))) (byte_eq v (8 - 1 - k))
      have hone := str_size [UInt8.ofNat (v / 256 ^ (8 - 1 - k))]
      have P2 : Below w.heap.size w (wr.alloc (.cells #[.int .u8 ((v : Int) / 2 ^ (8 * (8 - 1 - k)) % 256)] 5)) := hbel.alloc hbel.size _
      go_wp2
      go_roundw
      case rel => exact ⟨k + 1, by omega, int_eq (by omega), by rw [snoc_str, ← HA.out, List.append_assoc, HT.out], P2⟩
      case measure => simp [intOf]; omega
    · have hke : k = 8 := by omega
      subst hke
      go_wp2
      go_ret
      exact ⟨by rw [List.take_of_length_le (by rw [be_length]; exact Nat.le_refl _)]; rfl, hbel⟩
theorem RPutNumber_any (w : World) (s : ByteArray) (bytes : Int) (v : Nat) (hs : s.size ≤ 1000000000) :
    Calls Try.prog 80 #[.string s, .int .i64 bytes, .int .u64 v] w fun e w' =>
      e = .returned (.string ⟨(s.data.toList ++ be v (wd bytes)).toArray⟩) ∧ Below w.heap.size w w' := by
  unfold wd
  by_cases h1 : bytes < 1
  · rw [if_pos h1]; exact rput_low w s bytes v hs h1
  by_cases h8 : 8 < bytes
  · rw [if_neg h1, if_pos h8]; exact rput_high w s bytes v hs h8
  · rw [if_neg h1, if_neg h8]
    obtain ⟨n, rfl⟩ := Int.eq_ofNat_of_zero_le (show 0 ≤ bytes by omega)
    exact rput_mid w s n v hs (by omega) (by omega)
set_option maxRecDepth 100000 in
theorem RPutText_any (w : World) (s t : ByteArray) (hs : s.size ≤ 1000000000) (ht : t.size ≤ 1000000000) :
    Calls Try.prog 81 #[.string s, .string t] w fun e w' =>
      e = .returned (.string ⟨(s.data.toList ++ pt t.data.toList).toArray⟩) ∧ Below w.heap.size w w' := by
  have N := hide (rput_mid w s 4 t.size hs (by decide) (by decide))
  have hbl := be_length t.size 4
  have HT : Hid (pt t.data.toList = be t.size 4 ++ t.data.toList) := by unfold pt; rw [str_length]; exact rfl
  go_enter Try.func81, Try.ntmps81
  go_wp2_with fail
  refine N.out.mono ?_
  rintro e w1 ⟨rfl, hb⟩
  clear N
  go_wp2
  go_ret
  rw [HT.out, ← List.append_assoc, ← str_append]
  exact ⟨rfl, hb⟩
set_option maxHeartbeats 1000000 in
set_option maxRecDepth 100000 in
theorem value_any (w : World) (s : ByteArray) (hs : s.size ≤ 8) :
    Calls Try.prog 90 #[.string s] w fun e w' => e = .returned (.int .u64 (val s.data.toList)) ∧ w' = w := by
  have hsl := hide (str_length s)
  go_enter Try.func90, Try.ntmps90
  go_wp2_with fail
  go_loop [3, 4] (fun v i => ∃ k : Nat, k ≤ s.size ∧ i = .int .i64 k ∧ v = .int .u64 (val (s.data.toList.take k))) (fun _ i => s.size - (intOf i).toNat)
  case atStart => exact ⟨0, Nat.zero_le _, rfl, rfl⟩
  case round =>
    obtain ⟨k, hk, rfl, rfl⟩ := hrel
    by_cases hlt : k < s.size
    · have hkb : k < s.data.toList.length := by rw [hsl.out]; exact hlt
      have HV : Hid (val (s.data.toList.take (k + 1)) = val (s.data.toList.take k) * 256 + (s[k]'hlt).toNat) := by
        have := val_take s.data.toList k hkb
        rw [str_get s k hlt hkb] at this
        exact this
      have hb : val (s.data.toList.take k) < 72057594037927936 := by
        have := val_lt (s.data.toList.take k)
        have h2 : 256 ^ (s.data.toList.take k).length ≤ 256 ^ 7 := Nat.pow_le_pow_right (by decide) (by rw [List.length_take]; omega)
        have h3 : (256 : Nat) ^ 7 = 72057594037927936 := by decide
        omega
      clear hkb
      generalize val (s.data.toList.take k) = V at *
      go_wp2
      go_round
      case rel => exact ⟨k + 1, by omega, by go_num, int_eq (by rw [HV.out]; exact join8 V _ hb (UInt8.toNat_lt _))⟩
      case measure => simp [intOf]; omega
    · go_wp2
      go_ret
      exact ⟨by rw [List.take_of_length_le (by rw [hsl.out]; omega)]; rfl, rfl⟩
theorem ext_take (s : ByteArray) (n : Nat) : (s.extract 0 n).data.toList = s.data.toList.take n := by
  rw [ByteArray.data_extract]; simp
theorem ext_drop (s : ByteArray) (n : Nat) : (s.extract n s.size).data.toList = s.data.toList.drop n := by
  rw [ByteArray.data_extract, Array.toList_extract]
  show List.take (s.data.size - n) (List.drop n s.data.toList) = _
  rw [List.take_of_length_le]
  rw [List.length_drop, Array.length_toList]
  exact Nat.le_refl _
theorem ext_mid (s : ByteArray) (n : Nat) : (s.extract 4 (4 + n)).data.toList = (s.data.toList.drop 4).take n := by
  rw [ByteArray.data_extract, Array.toList_extract]
  show List.take (4 + n - 4) (List.drop 4 s.data.toList) = _
  rw [Nat.add_sub_cancel_left]
set_option maxRecDepth 100000 in
theorem rNumber_yes (w : World) (b n : Nat) (s : ByteArray) (hc : w.cell? ⟨b, 0, none⟩ = some (.string s)) (hf : w.frozen? ⟨b, 0, none⟩ = false) (h1 : 1 ≤ n) (h8 : n ≤ 8) (hn : n ≤ s.size) :
    Calls Try.prog 50 #[.pointer (some ⟨b, 0, none⟩), .int .i64 n] w fun e w' =>
      e = .returned (.tuple #[.int .u64 (val (s.data.toList.take n)), .bool true]) ∧ w' = w.setCell ⟨b, 0, none⟩ (.string (s.extract n s.size)) := by
  have V : Hid (Calls Try.prog 90 #[.string (s.extract 0 n)] w fun e w' => e = .returned (.int .u64 (val (s.data.toList.take n))) ∧ w' = w) := by
    have := value_any w (s.extract 0 n) (by rw [ByteArray.size_extract]; omega)
    rw [ext_take] at this
    exact this
  go_enter Try.func50, Try.ntmps50
  go_wp2_with fail
  refine V.out.mono ?_
  rintro e w1 ⟨rfl, rfl⟩
  clear V
  go_wp2
  go_ret2
  exact ⟨rfl, rfl⟩
set_option maxRecDepth 100000 in
theorem rNumber_no (w : World) (b : Nat) (n : Int) (s : ByteArray) (hc : w.cell? ⟨b, 0, none⟩ = some (.string s)) (h : n < 1 ∨ 8 < n ∨ (s.size : Int) < n) :
    Calls Try.prog 50 #[.pointer (some ⟨b, 0, none⟩), .int .i64 n] w fun e w' =>
      e = .returned (.tuple #[.int .u64 0, .bool false]) ∧ w' = w := by
  by_cases a1 : n < 1
  · clear h
    go_enter Try.func50, Try.ntmps50
    go_wp2
    all_goals go_ret2
    all_goals exact ⟨rfl, rfl⟩
  by_cases a2 : 8 < n
  · clear h
    go_enter Try.func50, Try.ntmps50
    go_wp2
    all_goals go_ret2
    all_goals exact ⟨rfl, rfl⟩
  have a3 : (s.size : Int) < n := by omega
  clear h
  go_enter Try.func50, Try.ntmps50
  go_wp2
  all_goals go_ret2
  all_goals exact ⟨rfl, rfl⟩
set_option maxRecDepth 100000 in
theorem rLeft_any (w : World) (b : Nat) (s : ByteArray) (hc : w.cell? ⟨b, 0, none⟩ = some (.string s)) :
    Calls Try.prog 92 #[.pointer (some ⟨b, 0, none⟩)] w fun e w' => e = .returned (.int .i64 s.size) ∧ w' = w := by
  go_enter Try.func92, Try.ntmps92
  go_wp2
  go_ret
  exact ⟨rfl, rfl⟩
set_option maxRecDepth 100000 in
theorem rNew_any (w : World) (s : ByteArray) :
    Calls Try.prog 49 #[.string s] w fun e w' => e = .returned (.pointer (some ⟨w.heap.size, 0, none⟩)) ∧ w' = w.alloc (.cells #[.string s] 116) := by
  go_enter Try.func49, Try.ntmps49
  go_wp2
  go_ret
  exact ⟨rfl, rfl⟩
set_option maxHeartbeats 1000000 in
set_option maxRecDepth 100000 in
theorem rText_yes (w : World) (b most : Nat) (s : ByteArray) (hc : w.cell? ⟨b, 0, none⟩ = some (.string s)) (hf : w.frozen? ⟨b, 0, none⟩ = false) (hs : s.size ≤ 140737488351232) (h4 : 4 ≤ s.size) (hm : val (s.data.toList.take 4) ≤ most) (hw : 4 + val (s.data.toList.take 4) ≤ s.size) (hmm : most < 9223372036854775808) :
    Calls Try.prog 91 #[.pointer (some ⟨b, 0, none⟩), .int .i64 most] w fun e w' =>
      e = .returned (.tuple #[.string (s.extract 4 (4 + val (s.data.toList.take 4))), .bool true]) ∧ w' = w.setCell ⟨b, 0, none⟩ (.string (s.extract (4 + val (s.data.toList.take 4)) s.size)) := by
  have V : Hid (Calls Try.prog 90 #[.string (s.extract 0 4)] w fun e w' => e = .returned (.int .u64 (val (s.data.toList.take 4))) ∧ w' = w) := by
    have := value_any w (s.extract 0 4) (by rw [ByteArray.size_extract]; omega)
    rw [ext_take] at this
    exact this
  have h32 := val4_lt s.data.toList
  generalize val (s.data.toList.take 4) = n at *
  go_enter Try.func91, Try.ntmps91
  go_wp2_with fail
  refine V.out.mono ?_
  rintro e w1 ⟨rfl, rfl⟩
  clear V
  go_wp2
  go_ret2
  exact ⟨rfl, rfl⟩
set_option maxHeartbeats 1000000 in
set_option maxRecDepth 100000 in
theorem rText_no (w : World) (b : Nat) (most : Int) (s : ByteArray) (hc : w.cell? ⟨b, 0, none⟩ = some (.string s)) (hs : s.size ≤ 140737488351232) (hlo : -9223372036854775808 ≤ most) (hmm : most < 9223372036854775808)
    (h : s.size < 4 ∨ most < 0 ∨ most < val (s.data.toList.take 4) ∨ s.size < 4 + val (s.data.toList.take 4)) :
    Calls Try.prog 91 #[.pointer (some ⟨b, 0, none⟩), .int .i64 most] w fun e w' =>
      e = .returned (.tuple #[.string ⟨#[]⟩, .bool false]) ∧ w' = w := by
  by_cases h4 : s.size < 4
  · clear h
    go_enter Try.func91, Try.ntmps91
    go_wp2
    all_goals go_ret2
    all_goals exact ⟨rfl, rfl⟩
  by_cases h5 : most < 0
  · clear h
    go_enter Try.func91, Try.ntmps91
    go_wp2
    all_goals go_ret2
    all_goals exact ⟨rfl, rfl⟩
  have V : Hid (Calls Try.prog 90 #[.string (s.extract 0 4)] w fun e w' => e = .returned (.int .u64 (val (s.data.toList.take 4))) ∧ w' = w) := by
    have := value_any w (s.extract 0 4) (by rw [ByteArray.size_extract]; omega)
    rw [ext_take] at this
    exact this
  have h32 := val4_lt s.data.toList
  generalize val (s.data.toList.take 4) = n at *
  obtain ⟨m, rfl⟩ := Int.eq_ofNat_of_zero_le (Int.not_lt.1 h5)
  have hm63 : m < 9223372036854775808 := by omega
  clear hlo hmm h5
  by_cases h6 : m < n
  · clear h
    go_enter Try.func91, Try.ntmps91
    go_wp2_with fail
    refine V.out.mono ?_
    rintro e w1 ⟨rfl, rfl⟩
    clear V
    go_wp2
    all_goals go_ret2
    all_goals exact ⟨rfl, rfl⟩
  have h7 : s.size < 4 + n := by omega
  clear h
  go_enter Try.func91, Try.ntmps91
  go_wp2_with fail
  refine V.out.mono ?_
  rintro e w1 ⟨rfl, rfl⟩
  clear V
  go_wp2
  all_goals go_ret2
  all_goals exact ⟨rfl, rfl⟩
end Go.Proofs.Ytiogegoepgkjlaa.Wi
