/-
  The reference lays numbers.
-/
import Derived.Test.YthelhalfmdbdlaaPC
namespace Go.Proofs.Ythelhalfmdbdlaa.Wi
open Go.RowKit Go.Proofs

theorem str_size (l : List UInt8) : (⟨l.toArray⟩ : ByteArray).size = l.length := by
  show l.toArray.size = l.length
  simp
theorem conv_one (w : World) (x : Int) (c : UInt8) (h : x = (c.toNat : Int)) : (convert 29 9 (.slice (some ⟨w.heap.size, 0, none⟩) 1 1)).run Try.prog (w.alloc (.cells #[.int .u8 x] 5)) = .ok (.string ⟨#[c]⟩) (w.alloc (.cells #[.int .u8 x] 5)) := by
  subst h
  exact run_convert_bytes_back (P := Try.prog) (w.alloc (.cells #[.int .u8 (c.toNat : Int)] 5)) 29 9 5 ⟨w.heap.size, 0, none⟩ 1 [c] Try.underlying29 Try.underlying5 Try.underlying9 (fun j hj => by
    obtain rfl : j = 0 := by simpa using hj
    rw [Addr.add_lit]
    simp)
theorem snoc_str (acc : List UInt8) (c : UInt8) : (⟨acc.toArray⟩ : ByteArray) ++ ⟨#[c]⟩ = ⟨(acc ++ [c]).toArray⟩ := str_append acc ⟨#[c]⟩
set_option maxHeartbeats 1000000 in
set_option maxRecDepth 100000 in
theorem rput_mid (w : World) (s : ByteArray) (n : Nat) (v : Nat) (hs : s.size ≤ 1000000000) (h1 : 1 ≤ n) (h8 : n ≤ 8) :
    Calls Try.prog 16 #[.string s, .int .i64 n, .int .u64 v] w fun e w' =>
      e = .returned (.string ⟨(s.data.toList ++ be v n).toArray⟩) ∧ Below w.heap.size w w' := by
  have hsl := hide (str_length s)
  go_enter Try.func16, Try.ntmps16
  go_wp2_with fail
  go_loopw [0, 7] (fun o i wr => ∃ k : Nat, k ≤ n ∧ i = .int .i64 ((n : Int) - 1 - k) ∧ o = .string ⟨(s.data.toList ++ (be v n).take k).toArray⟩ ∧ Below w.heap.size w wr) (fun _ i _ => (intOf i + 1).toNat)
  case atStart => exact ⟨0, Nat.zero_le _, by simp, by simp, Below.refl _ _⟩
  case round =>
    obtain ⟨k, hk, rfl, rfl, hbel⟩ := hrel
    by_cases hlt : k < n
    · have hl : (s.data.toList ++ (be v n).take k).length = s.size + k := by
        rw [List.length_append, List.length_take, be_length, hsl.out]; omega
      have HT := hide (be_take v n k hlt)
      have hlen : (s.data.toList ++ (be v n).take k).length ≤ 1000000008 := by omega
      clear hl
      generalize hacc : s.data.toList ++ (be v n).take k = acc at *
      have HA := hide hacc
      clear hacc
      have hv := conv_one wr ((v : Int) / 2 ^ (8 * (n - 1 - k)) % 256) (UInt8.ofNat (v / 256 ^ (n - 1 - k))) (byte_eq v (n - 1 - k))
      have hone := str_size [UInt8.ofNat (v / 256 ^ (n - 1 - k))]
      have P2 : Below w.heap.size w (wr.alloc (.cells #[.int .u8 ((v : Int) / 2 ^ (8 * (n - 1 - k)) % 256)] 5)) := hbel.alloc hbel.size _
      go_wp2
      go_roundw
      case rel => exact ⟨k + 1, by omega, int_eq (by omega), by rw [snoc_str, ← HA.out, List.append_assoc, HT.out], P2⟩
      case measure => simp [intOf]; omega
    · have hke : k = n := by omega
      subst hke
      go_wp2
      go_ret
      exact ⟨by rw [List.take_of_length_le (by rw [be_length]; exact Nat.le_refl _)]; rfl, hbel⟩
set_option maxHeartbeats 1000000 in
set_option maxRecDepth 100000 in
theorem rput_low (w : World) (s : ByteArray) (bytes : Int) (v : Nat) (hs : s.size ≤ 1000000000) (h1 : bytes < 1) :
    Calls Try.prog 16 #[.string s, .int .i64 bytes, .int .u64 v] w fun e w' =>
      e = .returned (.string ⟨(s.data.toList ++ be v 1).toArray⟩) ∧ Below w.heap.size w w' := by
  have hsl := hide (str_length s)
  go_enter Try.func16, Try.ntmps16
  go_wp2_with fail
  go_loopw [0, 7] (fun o i wr => ∃ k : Nat, k ≤ 1 ∧ i = .int .i64 ((1 : Int) - 1 - k) ∧ o = .string ⟨(s.data.toList ++ (be v 1).take k).toArray⟩ ∧ Below w.heap.size w wr) (fun _ i _ => (intOf i + 1).toNat)
  case atStart => exact ⟨0, Nat.zero_le _, by simp, by simp, Below.refl _ _⟩
  case round =>
    obtain ⟨k, hk, rfl, rfl, hbel⟩ := hrel
    by_cases hlt : k < 1
    · obtain rfl : k = 0 := by omega
      have hl : (s.data.toList ++ (be v 1).take 0).length = s.size + 0 := by
        rw [List.length_append, List.length_take, be_length, hsl.out]; omega
      have HT := hide (be_take v 1 0 hlt)
      have hlen : (s.data.toList ++ (be v 1).take 0).length ≤ 1000000008 := by omega
      clear hl
      generalize hacc : s.data.toList ++ (be v 1).take 0 = acc at *
      have HA := hide hacc
      clear hacc
      have hv := conv_one wr ((v : Int) % 256) (UInt8.ofNat (v / 256 ^ (1 - 1 - 0))) (byte_eq0 v)
      have hone := str_size [UInt8.ofNat (v / 256 ^ (1 - 1 - 0))]
      have P2 : Below w.heap.size w (wr.alloc (.cells #[.int .u8 ((v : Int) % 256)] 5)) := hbel.alloc hbel.size _
      go_wp2
      go_roundw
      case rel => exact ⟨0 + 1, by omega, int_eq (by omega), by rw [snoc_str, ← HA.out, List.append_assoc, HT.out]; simp, P2⟩
      case measure => simp [intOf]
    · have hke : k = 1 := by omega
      subst hke
      go_wp2
      go_ret
      exact ⟨by rw [List.take_of_length_le (by rw [be_length]; exact Nat.le_refl _)]; rfl, hbel⟩
set_option maxHeartbeats 1000000 in
set_option maxRecDepth 100000 in
theorem rput_high (w : World) (s : ByteArray) (bytes : Int) (v : Nat) (hs : s.size ≤ 1000000000) (h8 : 8 < bytes) :
    Calls Try.prog 16 #[.string s, .int .i64 bytes, .int .u64 v] w fun e w' =>
      e = .returned (.string ⟨(s.data.toList ++ be v 8).toArray⟩) ∧ Below w.heap.size w w' := by
  have hsl := hide (str_length s)
  go_enter Try.func16, Try.ntmps16
  go_wp2_with fail
  go_loopw [0, 7] (fun o i wr => ∃ k : Nat, k ≤ 8 ∧ i = .int .i64 ((8 : Int) - 1 - k) ∧ o = .string ⟨(s.data.toList ++ (be v 8).take k).toArray⟩ ∧ Below w.heap.size w wr) (fun _ i _ => (intOf i + 1).toNat)
  case atStart => exact ⟨0, Nat.zero_le _, by simp, by simp, Below.refl _ _⟩
  case round =>
    obtain ⟨k, hk, rfl, rfl, hbel⟩ := hrel
    by_cases hlt : k < 8
    · have hl : (s.data.toList ++ (be v 8).take k).length = s.size + k := by
        rw [List.length_append, List.length_take, be_length, hsl.out]; omega
      have HT := hide (be_take v 8 k hlt)
      have hlen : (s.data.toList ++ (be v 8).take k).length ≤ 1000000008 := by omega
      clear hl
      generalize hacc : s.data.toList ++ (be v 8).take k = acc at *
      have HA := hide hacc
      clear hacc
      have hv := conv_one wr ((v : Int) / 2 ^ (8 * (8 - 1 - k)) % 256) (UInt8.ofNat (v / 256 ^ (8 - 1 - k))) (byte_eq v (8 - 1 - k))
      have hone := str_size [UInt8.ofNat (v / 256 ^ (8 - 1 - k))]
      have P2 : Below w.heap.size w (wr.alloc (.cells #[.int .u8 ((v : Int) / 2 ^ (8 * (8 - 1 - k)) % 256)] 5)) := hbel.alloc hbel.size _
      go_wp2
      go_roundw
      case rel => exact ⟨k + 1, by omega, int_eq (by omega), by rw [snoc_str, ← HA.out, List.append_assoc, HT.out], P2⟩
      case measure => simp [intOf]; omega
    · have hke : k = 8 := by omega
      subst hke
      go_wp2
      go_ret
      exact ⟨by rw [List.take_of_length_le (by rw [be_length]; exact Nat.le_refl _)]; rfl, hbel⟩
theorem RPutNumber_any (w : World) (s : ByteArray) (bytes : Int) (v : Nat) (hs : s.size ≤ 1000000000) :
    Calls Try.prog 16 #[.string s, .int .i64 bytes, .int .u64 v] w fun e w' =>
      e = .returned (.string ⟨(s.data.toList ++ be v (wd bytes)).toArray⟩) ∧ Below w.heap.size w w' := by
  unfold wd
  by_cases h1 : bytes < 1
  · rw [if_pos h1]; exact rput_low w s bytes v hs h1
  by_cases h8 : 8 < bytes
  · rw [if_neg h1, if_pos h8]; exact rput_high w s bytes v hs h8
  · rw [if_neg h1, if_neg h8]
    obtain ⟨n, rfl⟩ := Int.eq_ofNat_of_zero_le (show 0 ≤ bytes by omega)
    exact rput_mid w s n v hs (by omega) (by omega)
end Go.Proofs.Ythelhalfmdbdlaa.Wi
