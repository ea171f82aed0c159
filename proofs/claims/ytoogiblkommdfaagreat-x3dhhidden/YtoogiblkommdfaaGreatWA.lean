/-
  wire: its reader, numbers and texts laid.
-/
import Derived.Test.YtoogiblkommdfaaGreatChecked
import Derived.Lib.AppendStr
import Derived.WalkKit
import Derived.WalkMore
import Derived.WalkSpells
namespace Go.Proofs.YtoogiblkommdfaaGreat.Wi
open Go.RowKit Go.Proofs

set_option maxHeartbeats 400000 in
set_option maxRecDepth 100000 in
theorem cut_ok (w : World) (b d o len cap skip n : Nat) (h0 : w.cell? ⟨b, 0, none⟩ = some (.bool true)) (h1 : w.cell? ⟨b, 1, none⟩ = some (.slice (some ⟨d, o, none⟩) len cap))
    (hlc : len ≤ cap) (hcap : len ≤ 140737488351232) (hs : skip + n ≤ len) :
    Calls Tryz.prog 121 #[.pointer (some ⟨b, 0, none⟩), .int .i64 skip, .int .i64 n] w fun e w' =>
      e = .returned (.tuple #[.slice (some (if n = 0 then ⟨d, o, none⟩ else ⟨d, o + skip, none⟩)) n n, .bool true]) ∧ w' = w := by
  go_enter Tryz.func121, Tryz.ntmps121
  go_wp2
  all_goals go_ret2
  all_goals exact ⟨rfl, rfl⟩
/-- the number of bytes, the highest first -/
def val (l : List UInt8) : Nat := l.foldl (fun v c => v * 256 + c.toNat) 0
theorem int_eq {k : IntKind} {a b : Int} (h : a = b) : Value.int k a = .int k b := by rw [h]
theorem hide {p : Prop} (h : p) : Hid p := h
theorem conv_none (w : World) (cap : Nat) : (convert 75 9 (.slice none 0 cap)).run Tryz.prog w = .ok (.string ⟨#[]⟩) w := by
  rw [run_convert_bytes_string w 75 9 5 none 0 cap Tryz.underlying75 Tryz.underlying5 Tryz.underlying9]
  rfl
theorem info5 : (Tryz.prog.info? 5).map (fun i => (i.zero, i.size, i.bytes)) = some (some (.int .u8 0), 1, 1) := by kernel_rfl
/-- a number's bytes, the highest first -/
def be (v : Nat) : Nat → List UInt8
  | 0 => []
  | n + 1 => UInt8.ofNat (v / 256 ^ n) :: be v n
theorem be_length (v : Nat) : ∀ n, (be v n).length = n
  | 0 => rfl
  | n + 1 => by rw [be, List.length_cons, be_length v n]
/-- bytes as cells -/
def cs (l : List UInt8) : List Value := l.map fun c => Value.int .u8 c.toNat
theorem cs_append (l r : List UInt8) : cs (l ++ r) = cs l ++ cs r := by simp [cs]
/-- the value v owns the bytes l -/
def Owns (w : World) (B : Nat) (v : Value) (l : List UInt8) : Prop := w.ownsRow B 5 1 v l.length (cs l)
theorem Owns.str {w : World} {B : Nat} {v : Value} {l : List UInt8} (h : Owns w B v l) : (convert 75 9 v).run Tryz.prog w = .ok (.string ⟨l.toArray⟩) w := by
  unfold Owns at h
  rcases h.2 with ⟨rfl, h0⟩ | ⟨g, cap, cur, rfl, _⟩
  · obtain rfl : l = [] := List.eq_nil_of_length_eq_zero h0
    exact conv_none w 0
  · refine run_convert_bytes_back (P := Tryz.prog) w 75 9 5 ⟨g, 0, none⟩ cap l Tryz.underlying75 Tryz.underlying5 Tryz.underlying9 (fun j hj => ?_)
    exact h.cells (g := g) rfl j _ (by simp [cs, List.getElem?_eq_getElem hj])
theorem own_start {w w1 w2 : World} {B : Nat} {v2 : Value} {s : ByteArray} {v1 : Value} (hg1 : w.grownBy w1 none) (hg2 : w1.grownBy w2 v1.ownBlock) (hb : ∀ k, v1.ownBlock = some k → B ≤ k) (hB : B ≤ w.heap.size)
    (hown2 : w2.ownsRow B 5 1 v2 (0 + s.size) ([] ++ Lib.strCells s)) : Owns w2 B v2 s.data.toList ∧ Below B w w2 := by
  have hsl : s.data.toList.length = s.size := by rw [Array.length_toList]; rfl
  refine ⟨?_, ?_⟩
  · unfold Owns
    rw [hsl]
    rw [Nat.zero_add, List.nil_append] at hown2
    exact hown2
  · exact ((Below.refl B w).grown hg1 hB (fun k h => by cases h)).grown hg2 (by have := hg1.size; omega) hb
theorem str_length (s : ByteArray) : s.data.toList.length = s.size := by rw [Array.length_toList]; rfl
theorem be_take (v : Nat) : ∀ n k, k < n → (be v n).take (k + 1) = (be v n).take k ++ [UInt8.ofNat (v / 256 ^ (n - 1 - k))]
  | n + 1, 0, _ => by simp [be]
  | n + 1, k + 1, h => by
    have := be_take v n k (by omega)
    rw [be, List.take_succ_cons, this, List.take_succ_cons, List.cons_append, show n + 1 - 1 - (k + 1) = n - 1 - k by omega]
theorem news_one (w : World) (x : Value) : ∀ j u, [x][j]? = some u → (w.alloc (.cells #[x] 5)).cell? ((⟨w.heap.size, 0, none⟩ : Addr).add j) = some u := by
  intro j u h
  match j, h with
  | 0, h => simp at h; subst h; simp [Addr.add]
theorem one_one (k : IntKind) (x : Int) : ∀ u ∈ [Value.int k x], u.oneCell' = true := by
  intro u h
  simp at h
  subst h
  rfl
theorem byte_eq (v m : Nat) : (v : Int) / 2 ^ (8 * m) % 256 = ((UInt8.ofNat (v / 256 ^ m)).toNat : Int) := by
  have e : (256 : Nat) ^ m = 2 ^ (8 * m) := by rw [Nat.pow_mul]
  rw [UInt8.toNat_ofNat', e]
  simp
/-- one byte more is owned -/
theorem push_byte {w1 : World} {B : Nat} {o : Value} {l : List UInt8} {c : UInt8} {x : Int} (hx : x = (c.toNat : Int)) (h : w1.ownsRow B 5 1 o (l.length + 1) (cs l ++ [.int .u8 x])) : Owns w1 B o (l ++ [c]) := by
  unfold Owns
  rw [cs_append, List.length_append, List.length_singleton]
  subst hx
  exact h
/-- and nothing old has turned -/
theorem push_below {w wr w1 : World} {B : Nat} {o : Value} {l : List UInt8} {x : Obj} (hb : Below B w wr) (hB : B ≤ w.heap.size) (hown : Owns wr B o l) (hg : (wr.alloc x).grownBy w1 o.ownBlock) : Below B w w1 := by
  have hs := hb.size
  refine (hb.alloc (by omega) x).grown hg (by simp; omega) (fun k hk => ?_)
  exact (World.ownsRow.lt hown k hk).1
theorem byte_eq0 (v : Nat) : (v : Int) % 256 = ((UInt8.ofNat (v / 256 ^ (1 - 1 - 0))).toNat : Int) := by
  simp
set_option maxHeartbeats 1000000 in
set_option maxRecDepth 100000 in
theorem put_mid (w : World) (s : ByteArray) (n : Nat) (v : Nat) (hs : s.size ≤ 1000000000) (h1 : 1 ≤ n) (h8 : n ≤ 8) :
    Calls Tryz.prog 75 #[.string s, .int .i64 n, .int .u64 v] w fun e w' =>
      e = .returned (.string ⟨(s.data.toList ++ be v n).toArray⟩) ∧ Below w.heap.size w w' := by
  obtain ⟨i0, hi, hz0, hz1, hz2⟩ := info_parts info5
  have hsl := hide (str_length s)
  go_enter Tryz.func75, Tryz.ntmps75
  go_wp2_with (first
    | (at_make; refine wpList_make_own _ rfl (.const (.int .i64 0)) (.tmp 16) 75 rfl w.heap.size 5 i0 (.int .u8 0) 1 Tryz.underlying75 hi hz0 hz1 .i64 .i64 _ (s.size + n) rfl rfl (by omega) (by rw [hz2]; omega) (by unfold maxLen; omega) (Nat.le_refl _) ?_; intro w1 hown1 hg1)
    | (at_builtin; refine Lib.wpList_append_own_string _ rfl (.tmp 18) (.tmp 19) 75 9 rfl w.heap.size 5 i0 Tryz.underlying75 Tryz.underlying9 hi hz0 hz1 hz2 (.slice (some ⟨w.heap.size, 0, none⟩) 0 (s.size + n)) 0 [] rfl hown1 s rfl (by unfold maxLen; omega) (by omega) (by have := hg1.size; omega) ?_; intro v2 w2 hown2 hg2 hn2))
  obtain ⟨O, L⟩ := own_start hg1 hg2 (fun k h => by simp [Value.ownBlock] at h; omega) (Nat.le_refl _) hown2
  clear hown1 hg1 hown2 hg2 hn2
  go_loopw [8, 9] (fun o i wr => ∃ k : Nat, k ≤ n ∧ i = .int .i64 ((n : Int) - 1 - k) ∧ Owns wr w.heap.size o (s.data.toList ++ (be v n).take k) ∧ Below w.heap.size w wr) (fun _ i _ => (intOf i + 1).toNat)
  case atStart => exact ⟨0, Nat.zero_le _, by simp, by simpa using O, L⟩
  case round =>
    clear O L
    obtain ⟨k, hk, rfl, hown, hbel⟩ := hrel
    by_cases hlt : k < n
    · have hl : (s.data.toList ++ (be v n).take k).length = s.size + k := by
        rw [List.length_append, List.length_take, be_length, hsl.out]; omega
      have HT := hide (be_take v n k hlt)
      have hlen : (s.data.toList ++ (be v n).take k).length ≤ 1000000008 := by omega
      clear hl
      generalize hacc : s.data.toList ++ (be v n).take k = acc at *
      have HA := hide hacc
      clear hacc
      go_wp2_with (at_builtin; refine wpList_append_own _ rfl (.tmp 27) (.tmp 33) 75 rfl w.heap.size 5 i0 (.int .u8 0) 1 1 Tryz.underlying75 hi hz0 hz1 hz2 rfl (by decide) _ acc.length (cs acc) rfl (World.ownsRow.alloc hown _) ⟨wr.heap.size, 0, none⟩ 1 1 [.int .u8 ((v : Int) / 2 ^ (8 * (n - 1 - k)) % 256)] rfl rfl (news_one _ _) (one_one _ _) (by unfold maxLen; omega) (by omega) (by have := hbel.size; simp; omega) ?_; intro v3 w3 hown3 hg3 hn3)
      have P1 := push_byte (byte_eq v (n - 1 - k)) hown3
      have P2 := push_below hbel (Nat.le_refl _) hown hg3
      rw [← HA.out, List.append_assoc, ← HT.out] at P1
      clear hown3 hg3 hn3 hown hbel HA HT
      go_wp2
      go_roundw
      case rel => exact ⟨k + 1, by omega, int_eq (by omega), P1, P2⟩
      case measure => simp [intOf]; omega
    · have hke : k = n := by omega
      subst hke
      have HS := hown.str
      rw [List.take_of_length_le (by rw [be_length]; exact Nat.le_refl _)] at HS
      go_wp2
      go_ret
      exact ⟨rfl, hbel⟩
set_option maxHeartbeats 1000000 in
set_option maxRecDepth 100000 in
theorem put_low (w : World) (s : ByteArray) (bytes : Int) (v : Nat) (hs : s.size ≤ 1000000000) (h1 : bytes < 1) :
    Calls Tryz.prog 75 #[.string s, .int .i64 bytes, .int .u64 v] w fun e w' =>
      e = .returned (.string ⟨(s.data.toList ++ be v 1).toArray⟩) ∧ Below w.heap.size w w' := by
  obtain ⟨i0, hi, hz0, hz1, hz2⟩ := info_parts info5
  have hsl := hide (str_length s)
  go_enter Tryz.func75, Tryz.ntmps75
  go_wp2_with (first
    | (at_make; refine wpList_make_own _ rfl (.const (.int .i64 0)) (.tmp 16) 75 rfl w.heap.size 5 i0 (.int .u8 0) 1 Tryz.underlying75 hi hz0 hz1 .i64 .i64 _ (s.size + 1) rfl rfl (by omega) (by rw [hz2]; omega) (by unfold maxLen; omega) (Nat.le_refl _) ?_; intro w1 hown1 hg1)
    | (at_builtin; refine Lib.wpList_append_own_string _ rfl (.tmp 18) (.tmp 19) 75 9 rfl w.heap.size 5 i0 Tryz.underlying75 Tryz.underlying9 hi hz0 hz1 hz2 (.slice (some ⟨w.heap.size, 0, none⟩) 0 (s.size + 1)) 0 [] rfl hown1 s rfl (by unfold maxLen; omega) (by omega) (by have := hg1.size; omega) ?_; intro v2 w2 hown2 hg2 hn2))
  obtain ⟨O, L⟩ := own_start hg1 hg2 (fun k h => by simp [Value.ownBlock] at h; omega) (Nat.le_refl _) hown2
  clear hown1 hg1 hown2 hg2 hn2
  go_loopw [8, 9] (fun o i wr => ∃ k : Nat, k ≤ 1 ∧ i = .int .i64 ((1 : Int) - 1 - k) ∧ Owns wr w.heap.size o (s.data.toList ++ (be v 1).take k) ∧ Below w.heap.size w wr) (fun _ i _ => (intOf i + 1).toNat)
  case atStart => exact ⟨0, Nat.zero_le _, by simp, by simpa using O, L⟩
  case round =>
    clear O L
    obtain ⟨k, hk, rfl, hown, hbel⟩ := hrel
    by_cases hlt : k < 1
    · obtain rfl : k = 0 := by omega
      have hl : (s.data.toList ++ (be v 1).take 0).length = s.size := by
        rw [List.length_append, List.length_take, be_length, hsl.out]; omega
      have HT := hide (be_take v 1 0 hlt)
      have hlen : (s.data.toList ++ (be v 1).take 0).length ≤ 1000000008 := by omega
      clear hl
      generalize hacc : s.data.toList ++ (be v 1).take 0 = acc at *
      have HA := hide hacc
      clear hacc
      go_wp2_with (at_builtin; refine wpList_append_own _ rfl (.tmp 27) (.tmp 33) 75 rfl w.heap.size 5 i0 (.int .u8 0) 1 1 Tryz.underlying75 hi hz0 hz1 hz2 rfl (by decide) _ acc.length (cs acc) rfl (World.ownsRow.alloc hown _) ⟨wr.heap.size, 0, none⟩ 1 1 [.int .u8 ((v : Int) % 256)] rfl rfl (news_one _ _) (one_one _ _) (by unfold maxLen; omega) (by omega) (by have := hbel.size; simp; omega) ?_; intro v3 w3 hown3 hg3 hn3)
      have P1 := push_byte (byte_eq0 v) hown3
      have P2 := push_below hbel (Nat.le_refl _) hown hg3
      rw [← HA.out, List.append_assoc, ← HT.out] at P1
      clear hown3 hg3 hn3 hown hbel HA HT
      go_wp2
      go_roundw
      case rel => exact ⟨1, by omega, int_eq (by omega), P1, P2⟩
      case measure => simp [intOf]
    · have hke : k = 1 := by omega
      subst hke
      have HS := hown.str
      rw [List.take_of_length_le (by rw [be_length]; exact Nat.le_refl _)] at HS
      go_wp2
      go_ret
      exact ⟨rfl, hbel⟩
set_option maxHeartbeats 1000000 in
set_option maxRecDepth 100000 in
theorem put_high (w : World) (s : ByteArray) (bytes : Int) (v : Nat) (hs : s.size ≤ 1000000000) (h8 : 8 < bytes) :
    Calls Tryz.prog 75 #[.string s, .int .i64 bytes, .int .u64 v] w fun e w' =>
      e = .returned (.string ⟨(s.data.toList ++ be v 8).toArray⟩) ∧ Below w.heap.size w w' := by
  obtain ⟨i0, hi, hz0, hz1, hz2⟩ := info_parts info5
  have hsl := hide (str_length s)
  go_enter Tryz.func75, Tryz.ntmps75
  go_wp2_with (first
    | (at_make; refine wpList_make_own _ rfl (.const (.int .i64 0)) (.tmp 16) 75 rfl w.heap.size 5 i0 (.int .u8 0) 1 Tryz.underlying75 hi hz0 hz1 .i64 .i64 _ (s.size + 8) rfl rfl (by omega) (by rw [hz2]; omega) (by unfold maxLen; omega) (Nat.le_refl _) ?_; intro w1 hown1 hg1)
    | (at_builtin; refine Lib.wpList_append_own_string _ rfl (.tmp 18) (.tmp 19) 75 9 rfl w.heap.size 5 i0 Tryz.underlying75 Tryz.underlying9 hi hz0 hz1 hz2 (.slice (some ⟨w.heap.size, 0, none⟩) 0 (s.size + 8)) 0 [] rfl hown1 s rfl (by unfold maxLen; omega) (by omega) (by have := hg1.size; omega) ?_; intro v2 w2 hown2 hg2 hn2))
  obtain ⟨O, L⟩ := own_start hg1 hg2 (fun k h => by simp [Value.ownBlock] at h; omega) (Nat.le_refl _) hown2
  clear hown1 hg1 hown2 hg2 hn2
  go_loopw [8, 9] (fun o i wr => ∃ k : Nat, k ≤ 8 ∧ i = .int .i64 ((8 : Int) - 1 - k) ∧ Owns wr w.heap.size o (s.data.toList ++ (be v 8).take k) ∧ Below w.heap.size w wr) (fun _ i _ => (intOf i + 1).toNat)
  case atStart => exact ⟨0, Nat.zero_le _, by simp, by simpa using O, L⟩
  case round =>
    clear O L
    obtain ⟨k, hk, rfl, hown, hbel⟩ := hrel
    by_cases hlt : k < 8
    · have hl : (s.data.toList ++ (be v 8).take k).length = s.size + k := by
        rw [List.length_append, List.length_take, be_length, hsl.out]; omega
      have HT := hide (be_take v 8 k hlt)
      have hlen : (s.data.toList ++ (be v 8).take k).length ≤ 1000000008 := by omega
      clear hl
      generalize hacc : s.data.toList ++ (be v 8).take k = acc at *
      have HA := hide hacc
      clear hacc
      go_wp2_with (at_builtin; refine wpList_append_own _ rfl (.tmp 27) (.tmp 33) 75 rfl w.heap.size 5 i0 (.int .u8 0) 1 1 Tryz.underlying75 hi hz0 hz1 hz2 rfl (by decide) _ acc.length (cs acc) rfl (World.ownsRow.alloc hown _) ⟨wr.heap.size, 0, none⟩ 1 1 [.int .u8 ((v : Int) / 2 ^ (8 * (8 - 1 - k)) % 256)] rfl rfl (news_one _ _) (one_one _ _) (by unfold maxLen; omega) (by omega) (by have := hbel.size; simp; omega) ?_; intro v3 w3 hown3 hg3 hn3)
      have P1 := push_byte (byte_eq v (8 - 1 - k)) hown3
      have P2 := push_below hbel (Nat.le_refl _) hown hg3
      rw [← HA.out, List.append_assoc, ← HT.out] at P1
      clear hown3 hg3 hn3 hown hbel HA HT
      go_wp2
      go_roundw
      case rel => exact ⟨k + 1, by omega, int_eq (by omega), P1, P2⟩
      case measure => simp [intOf]; omega
    · have hke : k = 8 := by omega
      subst hke
      have HS := hown.str
      rw [List.take_of_length_le (by rw [be_length]; exact Nat.le_refl _)] at HS
      go_wp2
      go_ret
      exact ⟨rfl, hbel⟩
/-- the width that is meant -/
def wd (bytes : Int) : Nat := if bytes < 1 then 1 else if 8 < bytes then 8 else bytes.toNat
theorem PutNumber_any (w : World) (s : ByteArray) (bytes : Int) (v : Nat) (hs : s.size ≤ 1000000000) :
    Calls Tryz.prog 75 #[.string s, .int .i64 bytes, .int .u64 v] w fun e w' =>
      e = .returned (.string ⟨(s.data.toList ++ be v (wd bytes)).toArray⟩) ∧ Below w.heap.size w w' := by
  unfold wd
  by_cases h1 : bytes < 1
  · rw [if_pos h1]; exact put_low w s bytes v hs h1
  by_cases h8 : 8 < bytes
  · rw [if_neg h1, if_pos h8]; exact put_high w s bytes v hs h8
  · rw [if_neg h1, if_neg h8]
    obtain ⟨n, rfl⟩ := Int.eq_ofNat_of_zero_le (show 0 ≤ bytes by omega)
    exact put_mid w s n v hs (by omega) (by omega)
/-- what PutText lays behind b -/
def pt (t : List UInt8) : List UInt8 := be t.length 4 ++ t
theorem str_append (l : List UInt8) (t : ByteArray) : (⟨l.toArray⟩ : ByteArray) ++ t = ⟨(l ++ t.data.toList).toArray⟩ := by
  apply ByteArray.ext
  simp
set_option maxRecDepth 100000 in
theorem PutText_any (w : World) (s t : ByteArray) (hs : s.size ≤ 1000000000) (ht : t.size ≤ 1000000000) :
    Calls Tryz.prog 74 #[.string s, .string t] w fun e w' =>
      e = .returned (.string ⟨(s.data.toList ++ pt t.data.toList).toArray⟩) ∧ Below w.heap.size w w' := by
  have N := hide (put_mid w s 4 t.size hs (by decide) (by decide))
  have hbl := be_length t.size 4
  have HT : Hid (pt t.data.toList = be t.size 4 ++ t.data.toList) := by unfold pt; rw [str_length]; exact rfl
  go_enter Tryz.func74, Tryz.ntmps74
  go_wp2_with fail
  refine N.out.mono ?_
  rintro e w1 ⟨rfl, hb⟩
  clear N
  go_wp2
  go_ret
  rw [HT.out, ← List.append_assoc, ← str_append]
  exact ⟨rfl, hb⟩
end Go.Proofs.YtoogiblkommdfaaGreat.Wi
