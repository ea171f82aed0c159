/-
  wire: its reader, numbers and texts laid.
-/
import Derived.Test.YtiogegoepgkjlaaChecked
import Derived.Lib.AppendStr
import Derived.WalkKit
import Derived.WalkMore
import Derived.WalkSpells
namespace Go.Proofs.Ytiogegoepgkjlaa.Wi
open Go.RowKit Go.Proofs

set_option maxHeartbeats 400000 in
set_option maxRecDepth 100000 in
theorem cut_ok (w : World) (b d o len cap skip n : Nat) (h0 : w.cell? ⟨b, 0, none⟩ = some (.bool true)) (h1 : w.cell? ⟨b, 1, none⟩ = some (.slice (some ⟨d, o, none⟩) len cap))
    (hlc : len ≤ cap) (hcap : len ≤ 140737488351232) (hs : skip + n ≤ len) :
    Calls Try.prog 110 #[.pointer (some ⟨b, 0, none⟩), .int .i64 skip, .int .i64 n] w fun e w' =>
      e = .returned (.tuple #[.slice (some (if n = 0 then ⟨d, o, none⟩ else ⟨d, o + skip, none⟩)) n n, .bool true]) ∧ w' = w := by
  go_enter Try.func110, Try.ntmps110
  go_wp2
  all_goals go_ret2
  all_goals exact ⟨rfl, rfl⟩
set_option maxHeartbeats 400000 in
set_option maxRecDepth 100000 in
theorem cut_no (w : World) (b d o len cap : Nat) (skip n : Int) (h0 : w.cell? ⟨b, 0, none⟩ = some (.bool true)) (h1 : w.cell? ⟨b, 1, none⟩ = some (.slice (some ⟨d, o, none⟩) len cap))
    (hcap : len ≤ 140737488351232) (hs : skip < 0 ∨ (len : Int) < skip ∨ n < 0 ∨ (len : Int) - skip < n) :
    Calls Try.prog 110 #[.pointer (some ⟨b, 0, none⟩), .int .i64 skip, .int .i64 n] w fun e w' =>
      e = .returned (.tuple #[.slice none 0 0, .bool false]) ∧ w' = w := by
  by_cases a1 : skip < 0
  · clear hs
    go_enter Try.func110, Try.ntmps110
    go_wp2
    all_goals go_ret2
    all_goals exact ⟨rfl, rfl⟩
  by_cases a2 : (len : Int) < skip
  · clear hs
    go_enter Try.func110, Try.ntmps110
    go_wp2
    all_goals go_ret2
    all_goals exact ⟨rfl, rfl⟩
  by_cases a3 : n < 0
  · clear hs
    go_enter Try.func110, Try.ntmps110
    go_wp2
    all_goals go_ret2
    all_goals exact ⟨rfl, rfl⟩
  have a4 : (len : Int) - skip < n := by omega
  clear hs
  go_enter Try.func110, Try.ntmps110
  go_wp2
  all_goals go_ret2
  all_goals exact ⟨rfl, rfl⟩
set_option maxRecDepth 100000 in
theorem look_any (w : World) (p : Value) :
    Calls Try.prog 101 #[p] w fun e w' => e = .returned (.func (Fn.func 110) #[p] #[]) ∧ w' = w := by
  go_enter Try.func101, Try.ntmps101
  go_wp2
  all_goals go_ret
  exact ⟨rfl, rfl⟩
set_option maxRecDepth 100000 in
theorem drop_ok (w : World) (b d o len cap n : Nat) (h1 : w.cell? ⟨b, 1, none⟩ = some (.slice (some ⟨d, o, none⟩) len cap)) (hf : w.frozen? ⟨b, 1, none⟩ = false)
    (hs : n ≤ len) :
    Calls Try.prog 102 #[.pointer (some ⟨b, 0, none⟩), .int .i64 n] w fun e w' =>
      e = .returned (.tuple #[]) ∧ w' = w.setCell ⟨b, 1, none⟩ (.slice (some (if cap = n then ⟨d, o, none⟩ else ⟨d, o + n, none⟩)) (len - n) (cap - n)) := by
  go_enter Try.func102, Try.ntmps102
  go_wp2
  all_goals go_end0
  all_goals exact ⟨rfl, rfl⟩
set_option maxRecDepth 100000 in
theorem left_ok (w : World) (b len cap : Nat) (ad : Option Addr) (h1 : w.cell? ⟨b, 1, none⟩ = some (.slice ad len cap))  :
    Calls Try.prog 106 #[.pointer (some ⟨b, 0, none⟩)] w fun e w' =>
      e = .returned (.int .i64 len) ∧ w' = w := by
  go_enter Try.func106, Try.ntmps106
  go_wp2
  all_goals go_ret
  all_goals exact ⟨rfl, rfl⟩
/-- the number of bytes, the highest first -/
def val (l : List UInt8) : Nat := l.foldl (fun v c => v * 256 + c.toNat) 0
theorem val_snoc (l : List UInt8) (c : UInt8) : val (l ++ [c]) = val l * 256 + c.toNat := by
  simp [val]
theorem val_take (l : List UInt8) (k : Nat) (h : k < l.length) : val (l.take (k + 1)) = val (l.take k) * 256 + l[k].toNat := by
  rw [List.take_succ_eq_append_getElem h, val_snoc]
theorem val_from (l : List UInt8) : ∀ a n, a < 256 ^ n → l.foldl (fun v c => v * 256 + c.toNat) a < 256 ^ (n + l.length) := by
  induction l with
  | nil => intro a n h; simpa using h
  | cons c l ih =>
    intro a n h
    have hc := c.toNat_lt
    have := ih (a * 256 + c.toNat) (n + 1) (by rw [Nat.pow_succ]; omega)
    simpa [List.foldl_cons, Nat.add_assoc, Nat.add_comm 1] using this
theorem val_lt (l : List UInt8) : val l < 256 ^ l.length := by
  have := val_from l 0 0 (by decide)
  rw [Nat.zero_add] at this
  exact this
/-- the reader in block b has the bytes bs, which lie in block d -/
structure Rd (w : World) (b d o cap : Nat) (bs : List UInt8) : Prop where
  made : w.cell? ⟨b, 0, none⟩ = some (.bool true)
  left : w.cell? ⟨b, 1, none⟩ = some (.slice (some ⟨d, o, none⟩) bs.length cap)
  free : w.frozen? ⟨b, 1, none⟩ = false
  room : bs.length ≤ cap
  few : bs.length ≤ 140737488351232
  cells : ∀ i (h : i < bs.length), w.cell? ⟨d, o + i, none⟩ = some (.int .u8 bs[i].toNat)
theorem join8 (V c : Nat) (hV : V < 72057594037927936) (hc : c < 256) : bits .or .u64 ((V : Int) * 256) (IntKind.u64.wrap (c : Int)) = ((V * 256 + c : Nat) : Int) := by
  have e : IntKind.u64.wrap (c : Int) = (c : Int) := by rw [IntKind.wrap_u64]; omega
  have e2 : (V : Int) * 256 = ((V * 256 : Nat) : Int) := by omega
  rw [e, e2, u64_or_nat (V * 256) c (by omega) (by omega), nat_join 8 (V * 256) c (by omega) (by omega)]
theorem int_eq {k : IntKind} {a b : Int} (h : a = b) : Value.int k a = .int k b := by rw [h]
set_option maxHeartbeats 1000000 in
set_option maxRecDepth 100000 in
theorem number_ok (w : World) (b d o cap width : Nat) (bs : List UInt8) (hr : Rd w b d o cap bs) (h1 : 1 ≤ width) (h8 : width ≤ 8) (hw : width ≤ bs.length) :
    Calls Try.prog 100 #[.func (Fn.func 110) #[.pointer (some ⟨b, 0, none⟩)] #[], .int .i64 width] w fun e w' =>
      e = .returned (.tuple #[.int .u64 (val (bs.take width)), .bool true]) ∧ w' = w := by
  obtain ⟨r0, r1, r2, r3, r4, r5⟩ := hr
  go_enter Try.func100, Try.ntmps100
  go_wp2
  go_step3
  go_wp2
  go_step3
  go_wp2
  go_loop [6, 7] (fun v i => ∃ k : Nat, k ≤ width ∧ i = .int .i64 k ∧ v = .int .u64 (val (bs.take k))) (fun _ i => width - (intOf i).toNat)
  case atStart => exact ⟨0, Nat.zero_le _, rfl, rfl⟩
  case round =>
    obtain ⟨k, hk, rfl, rfl⟩ := hrel
    by_cases hlt : k < width
    · have hkb : k < bs.length := by omega
      have hne : ((k : Int) == (width : Int)) = false := beq_eq_false_iff_ne.2 (by omega)
      have hc := r5 k hkb
      have HV : Hid (val (bs.take (k + 1)) = val (bs.take k) * 256 + bs[k].toNat) := val_take bs k hkb
      have hb : val (bs.take k) < 72057594037927936 := by
        have := val_lt (bs.take k)
        have h2 : 256 ^ (bs.take k).length ≤ 256 ^ 7 := Nat.pow_le_pow_right (by decide) (by rw [List.length_take]; omega)
        have h3 : (256 : Nat) ^ 7 = 72057594037927936 := by decide
        omega
      generalize val (bs.take k) = V at *
      go_wp2_with (go_at_call 110; refine (cut_ok w b d o bs.length cap k 1 r0 r1 r3 r4 (by omega)).mono ?_; rintro e w' ⟨rfl, rfl⟩)
      go_round
      case rel => exact ⟨k + 1, by omega, by go_num, int_eq (by rw [HV.out]; exact join8 V _ hb (UInt8.toNat_lt _))⟩
      case measure => simp [intOf]; omega
    · have hke : k = width := by omega
      subst hke
      by_cases hkb : k + 1 ≤ bs.length
      · go_wp2_with (go_at_call 110; refine (cut_ok w b d o bs.length cap k 1 r0 r1 r3 r4 (by omega)).mono ?_; rintro e w' ⟨rfl, rfl⟩)
        rw [Exit.noGoto_ret]
        go_ret2
        exact ⟨rfl, rfl⟩
      · go_wp2_with (go_at_call 110; refine (cut_no w b d o bs.length cap k 1 r0 r1 r4 (by omega)).mono ?_; rintro e w' ⟨rfl, rfl⟩)
        rw [Exit.noGoto_ret]
        go_ret2
        exact ⟨rfl, rfl⟩
set_option maxHeartbeats 1000000 in
set_option maxRecDepth 100000 in
theorem number_short (w : World) (b d o cap width : Nat) (bs : List UInt8) (hr : Rd w b d o cap bs) (h1 : 1 ≤ width) (h8 : width ≤ 8) (hw : bs.length < width) :
    Calls Try.prog 100 #[.func (Fn.func 110) #[.pointer (some ⟨b, 0, none⟩)] #[], .int .i64 width] w fun e w' =>
      e = .returned (.tuple #[.int .u64 0, .bool false]) ∧ w' = w := by
  obtain ⟨r0, r1, r2, r3, r4, r5⟩ := hr
  go_enter Try.func100, Try.ntmps100
  go_wp2
  go_step3
  go_wp2
  go_step3
  go_wp2
  go_loop [6, 7] (fun v i => ∃ k : Nat, k ≤ bs.length ∧ i = .int .i64 k ∧ v = .int .u64 (val (bs.take k))) (fun _ i => width - (intOf i).toNat)
  case atStart => exact ⟨0, Nat.zero_le _, rfl, rfl⟩
  case round =>
    obtain ⟨k, hk, rfl, rfl⟩ := hrel
    have hne : ((k : Int) == (width : Int)) = false := beq_eq_false_iff_ne.2 (by omega)
    by_cases hlt : k < bs.length
    · have hc := r5 k hlt
      have HV : Hid (val (bs.take (k + 1)) = val (bs.take k) * 256 + bs[k].toNat) := val_take bs k hlt
      have hb : val (bs.take k) < 72057594037927936 := by
        have := val_lt (bs.take k)
        have h2 : 256 ^ (bs.take k).length ≤ 256 ^ 7 := Nat.pow_le_pow_right (by decide) (by rw [List.length_take]; omega)
        have h3 : (256 : Nat) ^ 7 = 72057594037927936 := by decide
        omega
      generalize val (bs.take k) = V at *
      go_wp2_with (go_at_call 110; refine (cut_ok w b d o bs.length cap k 1 r0 r1 r3 r4 (by omega)).mono ?_; rintro e w' ⟨rfl, rfl⟩)
      go_round
      case rel => exact ⟨k + 1, by omega, by go_num, int_eq (by rw [HV.out]; exact join8 V _ hb (UInt8.toNat_lt _))⟩
      case measure => simp [intOf]; omega
    · go_wp2_with (go_at_call 110; refine (cut_no w b d o bs.length cap k 1 r0 r1 r4 (by omega)).mono ?_; rintro e w' ⟨rfl, rfl⟩)
      rw [Exit.noGoto_ret]
      go_ret2
      exact ⟨rfl, rfl⟩
/-- the text that bytes begin with -/
abbrev txt (bs : List UInt8) : List UInt8 := (bs.drop 4).take (val (bs.take 4))
theorem val4_lt (bs : List UInt8) : val (bs.take 4) < 4294967296 := by
  have := val_lt (bs.take 4)
  have h2 : 256 ^ (bs.take 4).length ≤ 256 ^ 4 := Nat.pow_le_pow_right (by decide) (by rw [List.length_take]; omega)
  have h3 : (256 : Nat) ^ 4 = 4294967296 := by decide
  omega
theorem hide {p : Prop} (h : p) : Hid p := h
/-- cut, where it answers true: the piece's address as a letter -/
theorem cut_some (w : World) (b d o cap skip n : Nat) (bs : List UInt8) (hr : Rd w b d o cap bs) (hs : skip + n ≤ bs.length) :
    Calls Try.prog 110 #[.pointer (some ⟨b, 0, none⟩), .int .i64 skip, .int .i64 n] w fun e w' =>
      ∃ o', (∀ j, j < n → w.cell? ⟨d, o' + j, none⟩ = w.cell? ⟨d, o + (skip + j), none⟩) ∧ e = .returned (.tuple #[.slice (some ⟨d, o', none⟩) n n, .bool true]) ∧ w' = w := by
  refine (cut_ok w b d o bs.length cap skip n hr.made hr.left hr.room hr.few hs).mono ?_
  rintro e w' ⟨rfl, rfl⟩
  by_cases h : n = 0
  · subst h
    exact ⟨o, fun j hj => absurd hj (Nat.not_lt_zero _), by simp, rfl⟩
  · exact ⟨o + skip, fun j _ => by rw [Nat.add_assoc], by simp [h], rfl⟩
theorem conv_piece (w : World) (d o o' cap skip n : Nat) (bs : List UInt8) (hn : skip + n ≤ bs.length) (hc : ∀ i (h : i < bs.length), w.cell? ⟨d, o + i, none⟩ = some (.int .u8 bs[i].toNat))
    (ho : ∀ j, j < n → w.cell? ⟨d, o' + j, none⟩ = w.cell? ⟨d, o + (skip + j), none⟩) :
    (convert 64 9 (.slice (some ⟨d, o', none⟩) n cap)).run Try.prog w = .ok (.string ⟨((bs.drop skip).take n).toArray⟩) w := by
  have hl : ((bs.drop skip).take n).length = n := by rw [List.length_take, List.length_drop]; omega
  have h := run_convert_bytes_back (P := Try.prog) w 64 9 5 ⟨d, o', none⟩ cap ((bs.drop skip).take n) Try.underlying64 Try.underlying5 Try.underlying9
    (fun j hj => by
      have hj' : j < n := by omega
      have hs : skip + j < bs.length := by omega
      have := hc (skip + j) hs
      rw [List.getElem_take, List.getElem_drop]
      have e : (⟨d, o', none⟩ : Addr).add j = ⟨d, o' + j, none⟩ := by simp [Addr.add]
      rw [e, ho j hj']
      exact this)
  rw [hl] at h
  exact h
theorem conv_none (w : World) (cap : Nat) : (convert 64 9 (.slice none 0 cap)).run Try.prog w = .ok (.string ⟨#[]⟩) w := by
  rw [run_convert_bytes_string w 64 9 5 none 0 cap Try.underlying64 Try.underlying5 Try.underlying9]
  rfl
set_option maxHeartbeats 1000000 in
set_option maxRecDepth 100000 in
theorem text_yes (w : World) (b d o cap most : Nat) (bs : List UInt8) (hr : Rd w b d o cap bs) (h4 : 4 ≤ bs.length) (hm : val (bs.take 4) ≤ most) (hw : 4 + val (bs.take 4) ≤ bs.length) (hmm : most < 9223372036854775808) :
    Calls Try.prog 103 #[.func (Fn.func 110) #[.pointer (some ⟨b, 0, none⟩)] #[], .int .i64 most] w fun e w' =>
      e = .returned (.tuple #[.string ⟨(txt bs).toArray⟩, .bool true]) ∧ w' = w := by
  have h32 := val4_lt bs
  have N := hide (number_ok w b d o cap 4 bs hr (by decide) (by decide) h4)
  unfold txt
  generalize val (bs.take 4) = n at *
  have C := hide (cut_some w b d o cap 4 n bs hr hw)
  have hfew := hr.few
  go_enter Try.func103, Try.ntmps103
  go_wp2_with fail
  refine N.out.mono ?_
  rintro e w1 ⟨rfl, rfl⟩
  go_wp2_with fail
  refine C.out.mono ?_
  rintro e w1 ⟨o', ho, rfl, rfl⟩
  have hv := conv_piece _ d o o' n 4 n bs hw hr.cells ho
  clear ho N C
  go_wp2
  go_ret2
  exact ⟨rfl, rfl⟩
set_option maxHeartbeats 1000000 in
set_option maxRecDepth 100000 in
theorem text_no (w : World) (b d o cap : Nat) (most : Int) (bs : List UInt8) (hr : Rd w b d o cap bs) (hlo : -9223372036854775808 ≤ most) (hmm : most < 9223372036854775808)
    (h : bs.length < 4 ∨ most < 0 ∨ most < val (bs.take 4) ∨ bs.length < 4 + val (bs.take 4)) :
    Calls Try.prog 103 #[.func (Fn.func 110) #[.pointer (some ⟨b, 0, none⟩)] #[], .int .i64 most] w fun e w' =>
      e = .returned (.tuple #[.string ⟨#[]⟩, .bool false]) ∧ w' = w := by
  have hfew := hr.few
  have h32 := val4_lt bs
  by_cases h4 : bs.length < 4
  · clear h
    have N := hide (number_short w b d o cap 4 bs hr (by decide) (by decide) h4)
    go_enter Try.func103, Try.ntmps103
    go_wp2_with fail
    refine N.out.mono ?_
    rintro e w1 ⟨rfl, rfl⟩
    go_wp2
    go_ret2
    exact ⟨rfl, rfl⟩
  have N := hide (number_ok w b d o cap 4 bs hr (by decide) (by decide) (by omega))
  by_cases h5 : most < 0
  · clear h
    generalize val (bs.take 4) = n at *
    go_enter Try.func103, Try.ntmps103
    go_wp2_with fail
    refine N.out.mono ?_
    rintro e w1 ⟨rfl, rfl⟩
    go_wp2
    go_ret2
    exact ⟨rfl, rfl⟩
  obtain ⟨m, rfl⟩ := Int.eq_ofNat_of_zero_le (Int.not_lt.1 h5)
  have hm63 : m < 9223372036854775808 := by omega
  clear hlo hmm h5
  by_cases h6 : m < val (bs.take 4)
  · clear h
    generalize val (bs.take 4) = n at *
    go_enter Try.func103, Try.ntmps103
    go_wp2_with fail
    refine N.out.mono ?_
    rintro e w1 ⟨rfl, rfl⟩
    go_wp2
    go_ret2
    exact ⟨rfl, rfl⟩
  have h7 : bs.length < 4 + val (bs.take 4) := by omega
  clear h
  generalize val (bs.take 4) = n at *
  have C := hide (cut_no w b d o bs.length cap 4 n hr.made hr.left hr.few (by omega))
  have hv := conv_none w 0
  go_enter Try.func103, Try.ntmps103
  go_wp2_with fail
  refine N.out.mono ?_
  rintro e w1 ⟨rfl, rfl⟩
  go_wp2_with fail
  refine C.out.mono ?_
  rintro e w1 ⟨rfl, rfl⟩
  clear N C
  go_wp2
  go_ret2
  exact ⟨rfl, rfl⟩
theorem Left_rd (w : World) (b d o cap : Nat) (bs : List UInt8) (hr : Rd w b d o cap bs) :
    Calls Try.prog 106 #[.pointer (some ⟨b, 0, none⟩)] w fun e w' => e = .returned (.int .i64 bs.length) ∧ w' = w :=
  left_ok w b bs.length cap _ hr.left
theorem info5 : (Try.prog.info? 5).map (fun i => (i.zero, i.size, i.bytes)) = some (some (.int .u8 0), 1, 1) := by kernel_rfl
/-- a number's bytes, the highest first -/
def be (v : Nat) : Nat → List UInt8
  | 0 => []
  | n + 1 => UInt8.ofNat (v / 256 ^ n) :: be v n
theorem be_length (v : Nat) : ∀ n, (be v n).length = n
  | 0 => rfl
  | n + 1 => by rw [be, List.length_cons, be_length v n]
/-- bytes as cells -/
def cs (l : List UInt8) : List Value := l.map fun c => Value.int .u8 c.toNat
theorem cs_append (l r : List UInt8) : cs (l ++ r) = cs l ++ cs r := by simp [cs]
/-- the value v owns the bytes l -/
def Owns (w : World) (B : Nat) (v : Value) (l : List UInt8) : Prop := w.ownsRow B 5 1 v l.length (cs l)
theorem Owns.str {w : World} {B : Nat} {v : Value} {l : List UInt8} (h : Owns w B v l) : (convert 64 9 v).run Try.prog w = .ok (.string ⟨l.toArray⟩) w := by
  unfold Owns at h
  rcases h.2 with ⟨rfl, h0⟩ | ⟨g, cap, cur, rfl, _⟩
  · obtain rfl : l = [] := List.eq_nil_of_length_eq_zero h0
    exact conv_none w 0
  · refine run_convert_bytes_back (P := Try.prog) w 64 9 5 ⟨g, 0, none⟩ cap l Try.underlying64 Try.underlying5 Try.underlying9 (fun j hj => ?_)
    exact h.cells (g := g) rfl j _ (by simp [cs, List.getElem?_eq_getElem hj])
theorem own_start {w w1 w2 : World} {B : Nat} {v2 : Value} {s : ByteArray} {v1 : Value} (hg1 : w.grownBy w1 none) (hg2 : w1.grownBy w2 v1.ownBlock) (hb : ∀ k, v1.ownBlock = some k → B ≤ k) (hB : B ≤ w.heap.size)
    (hown2 : w2.ownsRow B 5 1 v2 (0 + s.size) ([] ++ Lib.strCells s)) : Owns w2 B v2 s.data.toList ∧ Below B w w2 := by
  have hsl : s.data.toList.length = s.size := by rw [Array.length_toList]; rfl
  refine ⟨?_, ?_⟩
  · unfold Owns
    rw [hsl]
    rw [Nat.zero_add, List.nil_append] at hown2
    exact hown2
  · exact ((Below.refl B w).grown hg1 hB (fun k h => by cases h)).grown hg2 (by have := hg1.size; omega) hb
theorem str_length (s : ByteArray) : s.data.toList.length = s.size := by rw [Array.length_toList]; rfl
theorem be_take (v : Nat) : ∀ n k, k < n → (be v n).take (k + 1) = (be v n).take k ++ [UInt8.ofNat (v / 256 ^ (n - 1 - k))]
  | n + 1, 0, _ => by simp [be]
  | n + 1, k + 1, h => by
    have := be_take v n k (by omega)
    rw [be, List.take_succ_cons, this, List.take_succ_cons, List.cons_append, show n + 1 - 1 - (k + 1) = n - 1 - k by omega]
theorem news_one (w : World) (x : Value) : ∀ j u, [x][j]? = some u → (w.alloc (.cells #[x] 5)).cell? ((⟨w.heap.size, 0, none⟩ : Addr).add j) = some u := by
  intro j u h
  match j, h with
  | 0, h => simp at h; subst h; simp [Addr.add]
theorem one_one (k : IntKind) (x : Int) : ∀ u ∈ [Value.int k x], u.oneCell' = true := by
  intro u h
  simp at h
  subst h
  rfl
theorem byte_eq (v m : Nat) : (v : Int) / 2 ^ (8 * m) % 256 = ((UInt8.ofNat (v / 256 ^ m)).toNat : Int) := by
  have e : (256 : Nat) ^ m = 2 ^ (8 * m) := by rw [Nat.pow_mul]
  rw [UInt8.toNat_ofNat', e]
  simp
/-- one byte more is owned -/
theorem push_byte {w1 : World} {B : Nat} {o : Value} {l : List UInt8} {c : UInt8} {x : Int} (hx : x = (c.toNat : Int)) (h : w1.ownsRow B 5 1 o (l.length + 1) (cs l ++ [.int .u8 x])) : Owns w1 B o (l ++ [c]) := by
  unfold Owns
  rw [cs_append, List.length_append, List.length_singleton]
  subst hx
  exact h
/-- and nothing old has turned -/
theorem push_below {w wr w1 : World} {B : Nat} {o : Value} {l : List UInt8} {x : Obj} (hb : Below B w wr) (hB : B ≤ w.heap.size) (hown : Owns wr B o l) (hg : (wr.alloc x).grownBy w1 o.ownBlock) : Below B w w1 := by
  have hs := hb.size
  refine (hb.alloc (by omega) x).grown hg (by simp; omega) (fun k hk => ?_)
  exact (World.ownsRow.lt hown k hk).1
theorem byte_eq0 (v : Nat) : (v : Int) % 256 = ((UInt8.ofNat (v / 256 ^ (1 - 1 - 0))).toNat : Int) := by
  simp
set_option maxHeartbeats 1000000 in
set_option maxRecDepth 100000 in
theorem put_mid (w : World) (s : ByteArray) (n : Nat) (v : Nat) (hs : s.size ≤ 1000000000) (h1 : 1 ≤ n) (h8 : n ≤ 8) :
    Calls Try.prog 96 #[.string s, .int .i64 n, .int .u64 v] w fun e w' =>
      e = .returned (.string ⟨(s.data.toList ++ be v n).toArray⟩) ∧ Below w.heap.size w w' := by
  obtain ⟨i0, hi, hz0, hz1, hz2⟩ := info_parts info5
  have hsl := hide (str_length s)
  go_enter Try.func96, Try.ntmps96
  go_wp2_with (first
    | (at_make; refine wpList_make_own _ rfl (.const (.int .i64 0)) (.tmp 16) 64 rfl w.heap.size 5 i0 (.int .u8 0) 1 Try.underlying64 hi hz0 hz1 .i64 .i64 _ (s.size + n) rfl rfl (by omega) (by rw [hz2]; omega) (by unfold maxLen; omega) (Nat.le_refl _) ?_; intro w1 hown1 hg1)
    | (at_builtin; refine Lib.wpList_append_own_string _ rfl (.tmp 18) (.tmp 19) 64 9 rfl w.heap.size 5 i0 Try.underlying64 Try.underlying9 hi hz0 hz1 hz2 (.slice (some ⟨w.heap.size, 0, none⟩) 0 (s.size + n)) 0 [] rfl hown1 s rfl (by unfold maxLen; omega) (by omega) (by have := hg1.size; omega) ?_; intro v2 w2 hown2 hg2 hn2))
  obtain ⟨O, L⟩ := own_start hg1 hg2 (fun k h => by simp [Value.ownBlock] at h; omega) (Nat.le_refl _) hown2
  clear hown1 hg1 hown2 hg2 hn2
  go_loopw [8, 9] (fun o i wr => ∃ k : Nat, k ≤ n ∧ i = .int .i64 ((n : Int) - 1 - k) ∧ Owns wr w.heap.size o (s.data.toList ++ (be v n).take k) ∧ Below w.heap.size w wr) (fun _ i _ => (intOf i + 1).toNat)
  case atStart => exact ⟨0, Nat.zero_le _, by simp, by simpa using O, L⟩
  case round =>
    clear O L
    obtain ⟨k, hk, rfl, hown, hbel⟩ := hrel
    by_cases hlt : k < n
    · have hl : (s.data.toList ++ (be v n).take k).length = s.size + k := by
        rw [List.length_append, List.length_take, be_length, hsl.out]; omega
      have HT := hide (be_take v n k hlt)
      have hlen : (s.data.toList ++ (be v n).take k).length ≤ 1000000008 := by omega
      clear hl
      generalize hacc : s.data.toList ++ (be v n).take k = acc at *
      have HA := hide hacc
      clear hacc
      go_wp2_with (at_builtin; refine wpList_append_own _ rfl (.tmp 27) (.tmp 33) 64 rfl w.heap.size 5 i0 (.int .u8 0) 1 1 Try.underlying64 hi hz0 hz1 hz2 rfl (by decide) _ acc.length (cs acc) rfl (World.ownsRow.alloc hown _) ⟨wr.heap.size, 0, none⟩ 1 1 [.int .u8 ((v : Int) / 2 ^ (8 * (n - 1 - k)) % 256)] rfl rfl (news_one _ _) (one_one _ _) (by unfold maxLen; omega) (by omega) (by have := hbel.size; simp; omega) ?_; intro v3 w3 hown3 hg3 hn3)
      have P1 := push_byte (byte_eq v (n - 1 - k)) hown3
      have P2 := push_below hbel (Nat.le_refl _) hown hg3
      rw [← HA.out, List.append_assoc, ← HT.out] at P1
      clear hown3 hg3 hn3 hown hbel HA HT
      go_wp2
      go_roundw
      case rel => exact ⟨k + 1, by omega, int_eq (by omega), P1, P2⟩
      case measure => simp [intOf]; omega
    · have hke : k = n := by omega
      subst hke
      have HS := hown.str
      rw [List.take_of_length_le (by rw [be_length]; exact Nat.le_refl _)] at HS
      go_wp2
      go_ret
      exact ⟨rfl, hbel⟩
set_option maxHeartbeats 1000000 in
set_option maxRecDepth 100000 in
theorem put_low (w : World) (s : ByteArray) (bytes : Int) (v : Nat) (hs : s.size ≤ 1000000000) (h1 : bytes < 1) :
    Calls Try.prog 96 #[.string s, .int .i64 bytes, .int .u64 v] w fun e w' =>
      e = .returned (.string ⟨(s.data.toList ++ be v 1).toArray⟩) ∧ Below w.heap.size w w' := by
  obtain ⟨i0, hi, hz0, hz1, hz2⟩ := info_parts info5
  have hsl := hide (str_length s)
  go_enter Try.func96, Try.ntmps96
  go_wp2_with (first
    | (at_make; refine wpList_make_own _ rfl (.const (.int .i64 0)) (.tmp 16) 64 rfl w.heap.size 5 i0 (.int .u8 0) 1 Try.underlying64 hi hz0 hz1 .i64 .i64 _ (s.size + 1) rfl rfl (by omega) (by rw [hz2]; omega) (by unfold maxLen; omega) (Nat.le_refl _) ?_; intro w1 hown1 hg1)
    | (at_builtin; refine Lib.wpList_append_own_string _ rfl (.tmp 18) (.tmp 19) 64 9 rfl w.heap.size 5 i0 Try.underlying64 Try.underlying9 hi hz0 hz1 hz2 (.slice (some ⟨w.heap.size, 0, none⟩) 0 (s.size + 1)) 0 [] rfl hown1 s rfl (by unfold maxLen; omega) (by omega) (by have := hg1.size; omega) ?_; intro v2 w2 hown2 hg2 hn2))
  obtain ⟨O, L⟩ := own_start hg1 hg2 (fun k h => by simp [Value.ownBlock] at h; omega) (Nat.le_refl _) hown2
  clear hown1 hg1 hown2 hg2 hn2
  go_loopw [8, 9] (fun o i wr => ∃ k : Nat, k ≤ 1 ∧ i = .int .i64 ((1 : Int) - 1 - k) ∧ Owns wr w.heap.size o (s.data.toList ++ (be v 1).take k) ∧ Below w.heap.size w wr) (fun _ i _ => (intOf i + 1).toNat)
  case atStart => exact ⟨0, Nat.zero_le _, by simp, by simpa using O, L⟩
  case round =>
    clear O L
    obtain ⟨k, hk, rfl, hown, hbel⟩ := hrel
    by_cases hlt : k < 1
    · obtain rfl : k = 0 := by omega
      have hl : (s.data.toList ++ (be v 1).take 0).length = s.size := by
        rw [List.length_append, List.length_take, be_length, hsl.out]; omega
      have HT := hide (be_take v 1 0 hlt)
      have hlen : (s.data.toList ++ (be v 1).take 0).length ≤ 1000000008 := by omega
      clear hl
      generalize hacc : s.data.toList ++ (be v 1).take 0 = acc at *
      have HA := hide hacc
      clear hacc
      go_wp2_with (at_builtin; refine wpList_append_own _ rfl (.tmp 27) (.tmp 33) 64 rfl w.heap.size 5 i0 (.int .u8 0) 1 1 Try.underlying64 hi hz0 hz1 hz2 rfl (by decide) _ acc.length (cs acc) rfl (World.ownsRow.alloc hown _) ⟨wr.heap.size, 0, none⟩ 1 1 [.int .u8 ((v : Int) % 256)] rfl rfl (news_one _ _) (one_one _ _) (by unfold maxLen; omega) (by omega) (by have := hbel.size; simp; omega) ?_; intro v3 w3 hown3 hg3 hn3)
      have P1 := push_byte (byte_eq0 v) hown3
      have P2 := push_below hbel (Nat.le_refl _) hown hg3
      rw [← HA.out, List.append_assoc, ← HT.out] at P1
      clear hown3 hg3 hn3 hown hbel HA HT
      go_wp2
      go_roundw
      case rel => exact ⟨1, by omega, int_eq (by omega), P1, P2⟩
      case measure => simp [intOf]
    · have hke : k = 1 := by omega
      subst hke
      have HS := hown.str
      rw [List.take_of_length_le (by rw [be_length]; exact Nat.le_refl _)] at HS
      go_wp2
      go_ret
      exact ⟨rfl, hbel⟩
set_option maxHeartbeats 1000000 in
set_option maxRecDepth 100000 in
theorem put_high (w : World) (s : ByteArray) (bytes : Int) (v : Nat) (hs : s.size ≤ 1000000000) (h8 : 8 < bytes) :
    Calls Try.prog 96 #[.string s, .int .i64 bytes, .int .u64 v] w fun e w' =>
      e = .returned (.string ⟨(s.data.toList ++ be v 8).toArray⟩) ∧ Below w.heap.size w w' := by
  obtain ⟨i0, hi, hz0, hz1, hz2⟩ := info_parts info5
  have hsl := hide (str_length s)
  go_enter Try.func96, Try.ntmps96
  go_wp2_with (first
    | (at_make; refine wpList_make_own _ rfl (.const (.int .i64 0)) (.tmp 16) 64 rfl w.heap.size 5 i0 (.int .u8 0) 1 Try.underlying64 hi hz0 hz1 .i64 .i64 _ (s.size + 8) rfl rfl (by omega) (by rw [hz2]; omega) (by unfold maxLen; omega) (Nat.le_refl _) ?_; intro w1 hown1 hg1)
    | (at_builtin; refine Lib.wpList_append_own_string _ rfl (.tmp 18) (.tmp 19) 64 9 rfl w.heap.size 5 i0 Try.underlying64 Try.underlying9 hi hz0 hz1 hz2 (.slice (some ⟨w.heap.size, 0, none⟩) 0 (s.size + 8)) 0 [] rfl hown1 s rfl (by unfold maxLen; omega) (by omega) (by have := hg1.size; omega) ?_; intro v2 w2 hown2 hg2 hn2))
  obtain ⟨O, L⟩ := own_start hg1 hg2 (fun k h => by simp [Value.ownBlock] at h; omega) (Nat.le_refl _) hown2
  clear hown1 hg1 hown2 hg2 hn2
  go_loopw [8, 9] (fun o i wr => ∃ k : Nat, k ≤ 8 ∧ i = .int .i64 ((8 : Int) - 1 - k) ∧ Owns wr w.heap.size o (s.data.toList ++ (be v 8).take k) ∧ Below w.heap.size w wr) (fun _ i _ => (intOf i + 1).toNat)
  case atStart => exact ⟨0, Nat.zero_le _, by simp, by simpa using O, L⟩
  case round =>
    clear O L
    obtain ⟨k, hk, rfl, hown, hbel⟩ := hrel
    by_cases hlt : k < 8
    · have hl : (s.data.toList ++ (be v 8).take k).length = s.size + k := by
        rw [List.length_append, List.length_take, be_length, hsl.out]; omega
      have HT := hide (be_take v 8 k hlt)
      have hlen : (s.data.toList ++ (be v 8).take k).length ≤ 1000000008 := by omega
      clear hl
      generalize hacc : s.data.toList ++ (be v 8).take k = acc at *
      have HA := hide hacc
      clear hacc
      go_wp2_with (at_builtin; refine wpList_append_own _ rfl (.tmp 27) (.tmp 33) 64 rfl w.heap.size 5 i0 (.int .u8 0) 1 1 Try.underlying64 hi hz0 hz1 hz2 rfl (by decide) _ acc.length (cs acc) rfl (World.ownsRow.alloc hown _) ⟨wr.heap.size, 0, none⟩ 1 1 [.int .u8 ((v : Int) / 2 ^ (8 * (8 - 1 - k)) % 256)] rfl rfl (news_one _ _) (one_one _ _) (by unfold maxLen; omega) (by omega) (by have := hbel.size; simp; omega) ?_; intro v3 w3 hown3 hg3 hn3)
      have P1 := push_byte (byte_eq v (8 - 1 - k)) hown3
      have P2 := push_below hbel (Nat.le_refl _) hown hg3
      rw [← HA.out, List.append_assoc, ← HT.out] at P1
      clear hown3 hg3 hn3 hown hbel HA HT
      go_wp2
      go_roundw
      case rel => exact ⟨k + 1, by omega, int_eq (by omega), P1, P2⟩
      case measure => simp [intOf]; omega
    · have hke : k = 8 := by omega
      subst hke
      have HS := hown.str
      rw [List.take_of_length_le (by rw [be_length]; exact Nat.le_refl _)] at HS
      go_wp2
      go_ret
      exact ⟨rfl, hbel⟩
/-- the width that is meant -/
def wd (bytes : Int) : Nat := if bytes < 1 then 1 else if 8 < bytes then 8 else bytes.toNat
theorem PutNumber_any (w : World) (s : ByteArray) (bytes : Int) (v : Nat) (hs : s.size ≤ 1000000000) :
    Calls Try.prog 96 #[.string s, .int .i64 bytes, .int .u64 v] w fun e w' =>
      e = .returned (.string ⟨(s.data.toList ++ be v (wd bytes)).toArray⟩) ∧ Below w.heap.size w w' := by
  unfold wd
  by_cases h1 : bytes < 1
  · rw [if_pos h1]; exact put_low w s bytes v hs h1
  by_cases h8 : 8 < bytes
  · rw [if_neg h1, if_pos h8]; exact put_high w s bytes v hs h8
  · rw [if_neg h1, if_neg h8]
    obtain ⟨n, rfl⟩ := Int.eq_ofNat_of_zero_le (show 0 ≤ bytes by omega)
    exact put_mid w s n v hs (by omega) (by omega)
/-- what PutText lays behind b -/
def pt (t : List UInt8) : List UInt8 := be t.length 4 ++ t
theorem str_append (l : List UInt8) (t : ByteArray) : (⟨l.toArray⟩ : ByteArray) ++ t = ⟨(l ++ t.data.toList).toArray⟩ := by
  apply ByteArray.ext
  simp
set_option maxRecDepth 100000 in
theorem PutText_any (w : World) (s t : ByteArray) (hs : s.size ≤ 1000000000) (ht : t.size ≤ 1000000000) :
    Calls Try.prog 97 #[.string s, .string t] w fun e w' =>
      e = .returned (.string ⟨(s.data.toList ++ pt t.data.toList).toArray⟩) ∧ Below w.heap.size w w' := by
  have N := hide (put_mid w s 4 t.size hs (by decide) (by decide))
  have hbl := be_length t.size 4
  have HT : Hid (pt t.data.toList = be t.size 4 ++ t.data.toList) := by unfold pt; rw [str_length]; exact rfl
  go_enter Try.func97, Try.ntmps97
  go_wp2_with fail
  refine N.out.mono ?_
  rintro e w1 ⟨rfl, hb⟩
  clear N
  go_wp2
  go_ret
  rw [HT.out, ← List.append_assoc, ← str_append]
  exact ⟨rfl, hb⟩
end Go.Proofs.Ytiogegoepgkjlaa.Wi
