/-
  PutNumber and PutText: what they lay.
-/
import Derived.Test.YtdgjdfpblenogaaReader
import Derived.Lib.AppendStr
namespace Go.Proofs.Ytdgjdfpblenogaa
open Go.RowKit

theorem info5 : (Try.prog.info? 5).map (fun i => (i.zero, i.size, i.bytes)) = some (some (.int .u8 0), 1, 1) := by kernel_rfl

/-- a number's bytes, the highest first -/
def be (v : Nat) : Nat → List UInt8
  | 0 => []
  | n + 1 => UInt8.ofNat (v / 256 ^ n) :: be v n

theorem be_length (v : Nat) : ∀ n, (be v n).length = n
  | 0 => rfl
  | n + 1 => by rw [be, List.length_cons, be_length v n]

/-- bytes as cells -/
def cs (l : List UInt8) : List Value := l.map fun c => Value.int .u8 c.toNat

theorem cs_length (l : List UInt8) : (cs l).length = l.length := by simp [cs]
theorem cs_append (l r : List UInt8) : cs (l ++ r) = cs l ++ cs r := by simp [cs]

/-- the value v owns the bytes l -/
def Owns (w : World) (B : Nat) (v : Value) (l : List UInt8) : Prop := w.ownsRow B 5 1 v l.length (cs l)

theorem Owns.str {w : World} {B : Nat} {v : Value} {l : List UInt8} (h : Owns w B v l) : (convert 49 9 v).run Try.prog w = .ok (.string ⟨l.toArray⟩) w := by
  unfold Owns at h
  rcases h.2 with ⟨rfl, h0⟩ | ⟨g, cap, cur, rfl, _⟩
  · obtain rfl : l = [] := List.eq_nil_of_length_eq_zero h0
    exact conv_none w 0
  · refine run_convert_bytes_back (P := Try.prog) w 49 9 5 ⟨g, 0, none⟩ cap l Try.underlying49 Try.underlying5 Try.underlying9 (fun j hj => ?_)
    exact h.cells (g := g) rfl j _ (by simp [cs, List.getElem?_eq_getElem hj])

theorem own_start {w w1 w2 : World} {B : Nat} {v2 : Value} {s : ByteArray} {v1 : Value} (hg1 : w.grownBy w1 none) (hg2 : w1.grownBy w2 v1.ownBlock) (hb : ∀ k, v1.ownBlock = some k → B ≤ k) (hB : B ≤ w.heap.size)
    (hown2 : w2.ownsRow B 5 1 v2 (0 + s.size) ([] ++ Lib.strCells s)) : Owns w2 B v2 s.data.toList ∧ Below B w w2 := by
  have hsl : s.data.toList.length = s.size := by rw [Array.length_toList]; rfl
  refine ⟨?_, ?_⟩
  · unfold Owns
    rw [hsl]
    rw [Nat.zero_add, List.nil_append] at hown2
    exact hown2
  · exact ((Below.refl B w).grown hg1 hB (fun k h => by cases h)).grown hg2 (by have := hg1.size; omega) hb

theorem str_length (s : ByteArray) : s.data.toList.length = s.size := by rw [Array.length_toList]; rfl

theorem be_take (v : Nat) : ∀ n k, k < n → (be v n).take (k + 1) = (be v n).take k ++ [UInt8.ofNat (v / 256 ^ (n - 1 - k))]
  | n + 1, 0, _ => by simp [be]
  | n + 1, k + 1, h => by
    have := be_take v n k (by omega)
    rw [be, List.take_succ_cons, this, List.take_succ_cons, List.cons_append, show n + 1 - 1 - (k + 1) = n - 1 - k by omega]

theorem news_one (w : World) (x : Value) : ∀ j u, [x][j]? = some u → (w.alloc (.cells #[x] 5)).cell? ((⟨w.heap.size, 0, none⟩ : Addr).add j) = some u := by
  intro j u h
  match j, h with
  | 0, h => simp at h; subst h; simp [Addr.add]

theorem one_one (k : IntKind) (x : Int) : ∀ u ∈ [Value.int k x], u.oneCell' = true := by
  intro u h
  simp at h
  subst h
  rfl

theorem byte_eq (v m : Nat) : (v : Int) / 2 ^ (8 * m) % 256 = ((UInt8.ofNat (v / 256 ^ m)).toNat : Int) := by
  have e : (256 : Nat) ^ m = 2 ^ (8 * m) := by rw [Nat.pow_mul]
  rw [UInt8.toNat_ofNat', e]
  simp

/-- one byte more is owned -/
theorem push_byte {w1 : World} {B : Nat} {o : Value} {l : List UInt8} {c : UInt8} {x : Int} (hx : x = (c.toNat : Int)) (h : w1.ownsRow B 5 1 o (l.length + 1) (cs l ++ [.int .u8 x])) : Owns w1 B o (l ++ [c]) := by
  unfold Owns
  rw [cs_append, List.length_append, List.length_singleton]
  subst hx
  exact h

/-- and nothing old has turned -/
theorem push_below {w wr w1 : World} {B : Nat} {o : Value} {l : List UInt8} {x : Obj} (hb : Below B w wr) (hB : B ≤ w.heap.size) (hown : Owns wr B o l) (hg : (wr.alloc x).grownBy w1 o.ownBlock) : Below B w w1 := by
  have hs := hb.size
  refine (hb.alloc (by omega) x).grown hg (by simp; omega) (fun k hk => ?_)
  exact (World.ownsRow.lt hown k hk).1

theorem byte_eq0 (v : Nat) : (v : Int) % 256 = ((UInt8.ofNat (v / 256 ^ (1 - 1 - 0))).toNat : Int) := by
  simp

set_option maxHeartbeats 1000000 in
theorem put_mid (w : World) (s : ByteArray) (n : Nat) (v : Nat) (hs : s.size ≤ 1000000) (h1 : 1 ≤ n) (h8 : n ≤ 8) :
    Calls Try.prog 10 #[.string s, .int .i64 n, .int .u64 v] w fun e w' =>
      e = .returned (.string ⟨(s.data.toList ++ be v n).toArray⟩) ∧ Below w.heap.size w w' := by
  obtain ⟨i0, hi, hz0, hz1, hz2⟩ := info_parts info5
  have hsl := hide (str_length s)
  go_enter Try.func10, Try.ntmps10
  go_wp2_with (first
    | (at_make; refine wpList_make_own _ rfl (.const (.int .i64 0)) (.tmp 16) 49 rfl w.heap.size 5 i0 (.int .u8 0) 1 Try.underlying49 hi hz0 hz1 .i64 .i64 _ (s.size + n) rfl rfl (by omega) (by rw [hz2]; omega) (by unfold maxLen; omega) (Nat.le_refl _) ?_; intro w1 hown1 hg1)
    | (at_builtin; refine Lib.wpList_append_own_string _ rfl (.tmp 18) (.tmp 19) 49 9 rfl w.heap.size 5 i0 Try.underlying49 Try.underlying9 hi hz0 hz1 hz2 (.slice (some ⟨w.heap.size, 0, none⟩) 0 (s.size + n)) 0 [] rfl hown1 s rfl (by unfold maxLen; omega) (by omega) (by have := hg1.size; omega) ?_; intro v2 w2 hown2 hg2 hn2))
  obtain ⟨O, L⟩ := own_start hg1 hg2 (fun k h => by simp [Value.ownBlock] at h; omega) (Nat.le_refl _) hown2
  clear hown1 hg1 hown2 hg2 hn2
  go_loopw [8, 9] (fun o i wr => ∃ k : Nat, k ≤ n ∧ i = .int .i64 ((n : Int) - 1 - k) ∧ Owns wr w.heap.size o (s.data.toList ++ (be v n).take k) ∧ Below w.heap.size w wr) (fun _ i _ => (intOf i + 1).toNat)
  case atStart => exact ⟨0, Nat.zero_le _, by simp, by simpa using O, L⟩
  case round =>
    clear O L
    obtain ⟨k, hk, rfl, hown, hbel⟩ := hrel
    by_cases hlt : k < n
    · have hl : (s.data.toList ++ (be v n).take k).length = s.size + k := by
        rw [List.length_append, List.length_take, be_length, hsl.out]; omega
      have HT := hide (be_take v n k hlt)
      have hlen : (s.data.toList ++ (be v n).take k).length ≤ 1000008 := by omega
      clear hl
      generalize hacc : s.data.toList ++ (be v n).take k = acc at *
      have HA := hide hacc
      clear hacc
      go_wp2_with (at_builtin; refine wpList_append_own _ rfl (.tmp 27) (.tmp 33) 49 rfl w.heap.size 5 i0 (.int .u8 0) 1 1 Try.underlying49 hi hz0 hz1 hz2 rfl (by decide) _ acc.length (cs acc) rfl (World.ownsRow.alloc hown _) ⟨wr.heap.size, 0, none⟩ 1 1 [.int .u8 ((v : Int) / 2 ^ (8 * (n - 1 - k)) % 256)] rfl rfl (news_one _ _) (one_one _ _) (by unfold maxLen; omega) (by omega) (by have := hbel.size; simp; omega) ?_; intro v3 w3 hown3 hg3 hn3)
      have P1 := push_byte (byte_eq v (n - 1 - k)) hown3
      have P2 := push_below hbel (Nat.le_refl _) hown hg3
      rw [← HA.out, List.append_assoc, ← HT.out] at P1
      clear hown3 hg3 hn3 hown hbel HA HT
      go_wp2
      go_roundw
      case rel => exact ⟨k + 1, by omega, int_eq (by omega), P1, P2⟩
      case measure => simp [intOf]; omega
    · have hke : k = n := by omega
      subst hke
      have HS := hown.str
      rw [List.take_of_length_le (by rw [be_length]; exact Nat.le_refl _)] at HS
      go_wp2
      go_ret
      exact ⟨rfl, hbel⟩

set_option maxHeartbeats 1000000 in
theorem put_low (w : World) (s : ByteArray) (bytes : Int) (v : Nat) (hs : s.size ≤ 1000000) (h1 : bytes < 1) :
    Calls Try.prog 10 #[.string s, .int .i64 bytes, .int .u64 v] w fun e w' =>
      e = .returned (.string ⟨(s.data.toList ++ be v 1).toArray⟩) ∧ Below w.heap.size w w' := by
  obtain ⟨i0, hi, hz0, hz1, hz2⟩ := info_parts info5
  have hsl := hide (str_length s)
  go_enter Try.func10, Try.ntmps10
  go_wp2_with (first
    | (at_make; refine wpList_make_own _ rfl (.const (.int .i64 0)) (.tmp 16) 49 rfl w.heap.size 5 i0 (.int .u8 0) 1 Try.underlying49 hi hz0 hz1 .i64 .i64 _ (s.size + 1) rfl rfl (by omega) (by rw [hz2]; omega) (by unfold maxLen; omega) (Nat.le_refl _) ?_; intro w1 hown1 hg1)
    | (at_builtin; refine Lib.wpList_append_own_string _ rfl (.tmp 18) (.tmp 19) 49 9 rfl w.heap.size 5 i0 Try.underlying49 Try.underlying9 hi hz0 hz1 hz2 (.slice (some ⟨w.heap.size, 0, none⟩) 0 (s.size + 1)) 0 [] rfl hown1 s rfl (by unfold maxLen; omega) (by omega) (by have := hg1.size; omega) ?_; intro v2 w2 hown2 hg2 hn2))
  obtain ⟨O, L⟩ := own_start hg1 hg2 (fun k h => by simp [Value.ownBlock] at h; omega) (Nat.le_refl _) hown2
  clear hown1 hg1 hown2 hg2 hn2
  go_loopw [8, 9] (fun o i wr => ∃ k : Nat, k ≤ 1 ∧ i = .int .i64 ((1 : Int) - 1 - k) ∧ Owns wr w.heap.size o (s.data.toList ++ (be v 1).take k) ∧ Below w.heap.size w wr) (fun _ i _ => (intOf i + 1).toNat)
  case atStart => exact ⟨0, Nat.zero_le _, by simp, by simpa using O, L⟩
  case round =>
    clear O L
    obtain ⟨k, hk, rfl, hown, hbel⟩ := hrel
    by_cases hlt : k < 1
    · obtain rfl : k = 0 := by omega
      have hl : (s.data.toList ++ (be v 1).take 0).length = s.size := by
        rw [List.length_append, List.length_take, be_length, hsl.out]; omega
      have HT := hide (be_take v 1 0 hlt)
      have hlen : (s.data.toList ++ (be v 1).take 0).length ≤ 1000008 := by omega
      clear hl
      generalize hacc : s.data.toList ++ (be v 1).take 0 = acc at *
      have HA := hide hacc
      clear hacc
      go_wp2_with (at_builtin; refine wpList_append_own _ rfl (.tmp 27) (.tmp 33) 49 rfl w.heap.size 5 i0 (.int .u8 0) 1 1 Try.underlying49 hi hz0 hz1 hz2 rfl (by decide) _ acc.length (cs acc) rfl (World.ownsRow.alloc hown _) ⟨wr.heap.size, 0, none⟩ 1 1 [.int .u8 ((v : Int) % 256)] rfl rfl (news_one _ _) (one_one _ _) (by unfold maxLen; omega) (by omega) (by have := hbel.size; simp; omega) ?_; intro v3 w3 hown3 hg3 hn3)
      have P1 := push_byte (byte_eq0 v) hown3
      have P2 := push_below hbel (Nat.le_refl _) hown hg3
      rw [← HA.out, List.append_assoc, ← HT.out] at P1
      clear hown3 hg3 hn3 hown hbel HA HT
      go_wp2
      go_roundw
      case rel => exact ⟨1, by omega, int_eq (by omega), P1, P2⟩
      case measure => simp [intOf]
    · have hke : k = 1 := by omega
      subst hke
      have HS := hown.str
      rw [List.take_of_length_le (by rw [be_length]; exact Nat.le_refl _)] at HS
      go_wp2
      go_ret
      exact ⟨rfl, hbel⟩

set_option maxHeartbeats 1000000 in
theorem put_high (w : World) (s : ByteArray) (bytes : Int) (v : Nat) (hs : s.size ≤ 1000000) (h8 : 8 < bytes) :
    Calls Try.prog 10 #[.string s, .int .i64 bytes, .int .u64 v] w fun e w' =>
      e = .returned (.string ⟨(s.data.toList ++ be v 8).toArray⟩) ∧ Below w.heap.size w w' := by
  obtain ⟨i0, hi, hz0, hz1, hz2⟩ := info_parts info5
  have hsl := hide (str_length s)
  go_enter Try.func10, Try.ntmps10
  go_wp2_with (first
    | (at_make; refine wpList_make_own _ rfl (.const (.int .i64 0)) (.tmp 16) 49 rfl w.heap.size 5 i0 (.int .u8 0) 1 Try.underlying49 hi hz0 hz1 .i64 .i64 _ (s.size + 8) rfl rfl (by omega) (by rw [hz2]; omega) (by unfold maxLen; omega) (Nat.le_refl _) ?_; intro w1 hown1 hg1)
    | (at_builtin; refine Lib.wpList_append_own_string _ rfl (.tmp 18) (.tmp 19) 49 9 rfl w.heap.size 5 i0 Try.underlying49 Try.underlying9 hi hz0 hz1 hz2 (.slice (some ⟨w.heap.size, 0, none⟩) 0 (s.size + 8)) 0 [] rfl hown1 s rfl (by unfold maxLen; omega) (by omega) (by have := hg1.size; omega) ?_; intro v2 w2 hown2 hg2 hn2))
  obtain ⟨O, L⟩ := own_start hg1 hg2 (fun k h => by simp [Value.ownBlock] at h; omega) (Nat.le_refl _) hown2
  clear hown1 hg1 hown2 hg2 hn2
  go_loopw [8, 9] (fun o i wr => ∃ k : Nat, k ≤ 8 ∧ i = .int .i64 ((8 : Int) - 1 - k) ∧ Owns wr w.heap.size o (s.data.toList ++ (be v 8).take k) ∧ Below w.heap.size w wr) (fun _ i _ => (intOf i + 1).toNat)
  case atStart => exact ⟨0, Nat.zero_le _, by simp, by simpa using O, L⟩
  case round =>
    clear O L
    obtain ⟨k, hk, rfl, hown, hbel⟩ := hrel
    by_cases hlt : k < 8
    · have hl : (s.data.toList ++ (be v 8).take k).length = s.size + k := by
        rw [List.length_append, List.length_take, be_length, hsl.out]; omega
      have HT := hide (be_take v 8 k hlt)
      have hlen : (s.data.toList ++ (be v 8).take k).length ≤ 1000008 := by omega
      clear hl
      generalize hacc : s.data.toList ++ (be v 8).take k = acc at *
      have HA := hide hacc
      clear hacc
      go_wp2_with (at_builtin; refine wpList_append_own _ rfl (.tmp 27) (.tmp 33) 49 rfl w.heap.size 5 i0 (.int .u8 0) 1 1 Try.underlying49 hi hz0 hz1 hz2 rfl (by decide) _ acc.length (cs acc) rfl (World.ownsRow.alloc hown _) ⟨wr.heap.size, 0, none⟩ 1 1 [.int .u8 ((v : Int) / 2 ^ (8 * (8 - 1 - k)) % 256)] rfl rfl (news_one _ _) (one_one _ _) (by unfold maxLen; omega) (by omega) (by have := hbel.size; simp; omega) ?_; intro v3 w3 hown3 hg3 hn3)
      have P1 := push_byte (byte_eq v (8 - 1 - k)) hown3
      have P2 := push_below hbel (Nat.le_refl _) hown hg3
      rw [← HA.out, List.append_assoc, ← HT.out] at P1
      clear hown3 hg3 hn3 hown hbel HA HT
      go_wp2
      go_roundw
      case rel => exact ⟨k + 1, by omega, int_eq (by omega), P1, P2⟩
      case measure => simp [intOf]; omega
    · have hke : k = 8 := by omega
      subst hke
      have HS := hown.str
      rw [List.take_of_length_le (by rw [be_length]; exact Nat.le_refl _)] at HS
      go_wp2
      go_ret
      exact ⟨rfl, hbel⟩

end Go.Proofs.Ytdgjdfpblenogaa
