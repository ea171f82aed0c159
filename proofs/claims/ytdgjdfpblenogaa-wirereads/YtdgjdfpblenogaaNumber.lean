/-
  The reader's inner call number: it tells the number of the first bytes.
-/
import Derived.Test.YtdgjdfpblenogaaCut
import Derived.WalkMore
namespace Go.Proofs.Ytdgjdfpblenogaa
open Go.RowKit

/-- the number of bytes, the highest first -/
def val (l : List UInt8) : Nat := l.foldl (fun v c => v * 256 + c.toNat) 0

theorem val_snoc (l : List UInt8) (c : UInt8) : val (l ++ [c]) = val l * 256 + c.toNat := by
  simp [val]

theorem val_take (l : List UInt8) (k : Nat) (h : k < l.length) : val (l.take (k + 1)) = val (l.take k) * 256 + l[k].toNat := by
  rw [List.take_succ_eq_append_getElem h, val_snoc]

theorem val_from (l : List UInt8) : ∀ a n, a < 256 ^ n → l.foldl (fun v c => v * 256 + c.toNat) a < 256 ^ (n + l.length) := by
  induction l with
  | nil => intro a n h; simpa using h
  | cons c l ih =>
    intro a n h
    have hc := c.toNat_lt
    have := ih (a * 256 + c.toNat) (n + 1) (by rw [Nat.pow_succ]; omega)
    simpa [List.foldl_cons, Nat.add_assoc, Nat.add_comm 1] using this

theorem val_lt (l : List UInt8) : val l < 256 ^ l.length := by
  have := val_from l 0 0 (by decide)
  rw [Nat.zero_add] at this
  exact this

/-- the reader in block b has the bytes bs, which lie in block d -/
structure Rd (w : World) (b d o cap : Nat) (bs : List UInt8) : Prop where
  made : w.cell? ⟨b, 0, none⟩ = some (.bool true)
  left : w.cell? ⟨b, 1, none⟩ = some (.slice (some ⟨d, o, none⟩) bs.length cap)
  free : w.frozen? ⟨b, 1, none⟩ = false
  room : bs.length ≤ cap
  few : bs.length ≤ 1000000
  cells : ∀ i (h : i < bs.length), w.cell? ⟨d, o + i, none⟩ = some (.int .u8 bs[i].toNat)

theorem join8 (V c : Nat) (hV : V < 72057594037927936) (hc : c < 256) : bits .or .u64 ((V : Int) * 256) (IntKind.u64.wrap (c : Int)) = ((V * 256 + c : Nat) : Int) := by
  have e : IntKind.u64.wrap (c : Int) = (c : Int) := by rw [IntKind.wrap_u64]; omega
  have e2 : (V : Int) * 256 = ((V * 256 : Nat) : Int) := by omega
  rw [e, e2, u64_or_nat (V * 256) c (by omega) (by omega), nat_join 8 (V * 256) c (by omega) (by omega)]

theorem int_eq {k : IntKind} {a b : Int} (h : a = b) : Value.int k a = .int k b := by rw [h]

set_option maxHeartbeats 1000000 in
theorem number_ok (w : World) (b d o cap width : Nat) (bs : List UInt8) (hr : Rd w b d o cap bs) (h1 : 1 ≤ width) (h8 : width ≤ 8) (hw : width ≤ bs.length) :
    Calls Try.prog 29 #[.func (Fn.func 34) #[.pointer (some ⟨b, 0, none⟩)] #[], .int .i64 width] w fun e w' =>
      e = .returned (.tuple #[.int .u64 (val (bs.take width)), .bool true]) ∧ w' = w := by
  obtain ⟨r0, r1, r2, r3, r4, r5⟩ := hr
  go_enter Try.func29, Try.ntmps29
  go_wp2
  go_step3
  go_wp2
  go_step3
  go_wp2
  go_loop [6, 7] (fun v i => ∃ k : Nat, k ≤ width ∧ i = .int .i64 k ∧ v = .int .u64 (val (bs.take k))) (fun _ i => width - (intOf i).toNat)
  case atStart => exact ⟨0, Nat.zero_le _, rfl, rfl⟩
  case round =>
    obtain ⟨k, hk, rfl, rfl⟩ := hrel
    by_cases hlt : k < width
    · have hkb : k < bs.length := by omega
      have hne : ((k : Int) == (width : Int)) = false := beq_eq_false_iff_ne.2 (by omega)
      have hc := r5 k hkb
      have HV : Hid (val (bs.take (k + 1)) = val (bs.take k) * 256 + bs[k].toNat) := val_take bs k hkb
      have hb : val (bs.take k) < 72057594037927936 := by
        have := val_lt (bs.take k)
        have h2 : 256 ^ (bs.take k).length ≤ 256 ^ 7 := Nat.pow_le_pow_right (by decide) (by rw [List.length_take]; omega)
        have h3 : (256 : Nat) ^ 7 = 72057594037927936 := by decide
        omega
      generalize val (bs.take k) = V at *
      go_wp2_with (go_at_call 34; refine (cut_ok w b d o bs.length cap k 1 r0 r1 r3 r4 (by omega)).mono ?_; rintro e w' ⟨rfl, rfl⟩)
      go_round
      case rel => exact ⟨k + 1, by omega, by go_num, int_eq (by rw [HV.out]; exact join8 V _ hb (UInt8.toNat_lt _))⟩
      case measure => simp [intOf]; omega
    · have hke : k = width := by omega
      subst hke
      by_cases hkb : k + 1 ≤ bs.length
      · go_wp2_with (go_at_call 34; refine (cut_ok w b d o bs.length cap k 1 r0 r1 r3 r4 (by omega)).mono ?_; rintro e w' ⟨rfl, rfl⟩)
        rw [Exit.noGoto_ret]
        go_ret2
        exact ⟨rfl, rfl⟩
      · go_wp2_with (go_at_call 34; refine (cut_no w b d o bs.length cap k 1 r0 r1 r4 (by omega)).mono ?_; rintro e w' ⟨rfl, rfl⟩)
        rw [Exit.noGoto_ret]
        go_ret2
        exact ⟨rfl, rfl⟩

set_option maxHeartbeats 1000000 in
theorem number_short (w : World) (b d o cap width : Nat) (bs : List UInt8) (hr : Rd w b d o cap bs) (h1 : 1 ≤ width) (h8 : width ≤ 8) (hw : bs.length < width) :
    Calls Try.prog 29 #[.func (Fn.func 34) #[.pointer (some ⟨b, 0, none⟩)] #[], .int .i64 width] w fun e w' =>
      e = .returned (.tuple #[.int .u64 0, .bool false]) ∧ w' = w := by
  obtain ⟨r0, r1, r2, r3, r4, r5⟩ := hr
  go_enter Try.func29, Try.ntmps29
  go_wp2
  go_step3
  go_wp2
  go_step3
  go_wp2
  go_loop [6, 7] (fun v i => ∃ k : Nat, k ≤ bs.length ∧ i = .int .i64 k ∧ v = .int .u64 (val (bs.take k))) (fun _ i => width - (intOf i).toNat)
  case atStart => exact ⟨0, Nat.zero_le _, rfl, rfl⟩
  case round =>
    obtain ⟨k, hk, rfl, rfl⟩ := hrel
    have hne : ((k : Int) == (width : Int)) = false := beq_eq_false_iff_ne.2 (by omega)
    by_cases hlt : k < bs.length
    · have hc := r5 k hlt
      have HV : Hid (val (bs.take (k + 1)) = val (bs.take k) * 256 + bs[k].toNat) := val_take bs k hlt
      have hb : val (bs.take k) < 72057594037927936 := by
        have := val_lt (bs.take k)
        have h2 : 256 ^ (bs.take k).length ≤ 256 ^ 7 := Nat.pow_le_pow_right (by decide) (by rw [List.length_take]; omega)
        have h3 : (256 : Nat) ^ 7 = 72057594037927936 := by decide
        omega
      generalize val (bs.take k) = V at *
      go_wp2_with (go_at_call 34; refine (cut_ok w b d o bs.length cap k 1 r0 r1 r3 r4 (by omega)).mono ?_; rintro e w' ⟨rfl, rfl⟩)
      go_round
      case rel => exact ⟨k + 1, by omega, by go_num, int_eq (by rw [HV.out]; exact join8 V _ hb (UInt8.toNat_lt _))⟩
      case measure => simp [intOf]; omega
    · go_wp2_with (go_at_call 34; refine (cut_no w b d o bs.length cap k 1 r0 r1 r4 (by omega)).mono ?_; rintro e w' ⟨rfl, rfl⟩)
      rw [Exit.noGoto_ret]
      go_ret2
      exact ⟨rfl, rfl⟩

theorem number_bad (w : World) (f : Value) (width : Int) (h : width < 1 ∨ 8 < width) :
    Calls Try.prog 29 #[f, .int .i64 width] w fun e w' => e = .returned (.tuple #[.int .u64 0, .bool false]) ∧ w' = w := by
  by_cases h1 : width < 1
  · clear h
    go_enter Try.func29, Try.ntmps29
    go_wp2
    go_step3
    go_wp2
    rw [Exit.noGoto_ret]
    go_ret2
    exact ⟨rfl, rfl⟩
  · have h2 : 8 < width := by omega
    clear h
    go_enter Try.func29, Try.ntmps29
    go_wp2
    go_step3
    go_wp2
    rw [Exit.noGoto_ret]
    go_ret2
    exact ⟨rfl, rfl⟩

set_option maxHeartbeats 1000000 in
theorem number_nil (w : World) (width : Nat) (h1 : 1 ≤ width) (h8 : width ≤ 8) :
    Calls Try.prog 29 #[.func (Fn.func 34) #[.pointer none] #[], .int .i64 width] w fun e w' =>
      e = .returned (.tuple #[.int .u64 0, .bool false]) ∧ w' = w := by
  have hne : ((0 : Int) == (width : Int)) = false := beq_eq_false_iff_ne.2 (by omega)
  go_enter Try.func29, Try.ntmps29
  go_wp2
  go_step3
  go_wp2
  go_step3
  go_wp2
  refine wp_loop_rounds 1 ?_
  rw [rounds_succ]
  go_wp2_with (go_at_call 34; refine (cut_nil w 0 1).mono ?_; rintro e w' ⟨rfl, rfl⟩)
  rw [Exit.noGoto_ret]
  go_ret2
  exact ⟨rfl, rfl⟩
end Go.Proofs.Ytdgjdfpblenogaa
