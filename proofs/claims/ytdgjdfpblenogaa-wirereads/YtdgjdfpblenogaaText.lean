/-
  The reader's inner call text: it tells the text that comes next.
-/
import Derived.Test.YtdgjdfpblenogaaNumber
namespace Go.Proofs.Ytdgjdfpblenogaa
open Go.RowKit

/-- the text that bytes begin with -/
abbrev txt (bs : List UInt8) : List UInt8 := (bs.drop 4).take (val (bs.take 4))

theorem val4_lt (bs : List UInt8) : val (bs.take 4) < 4294967296 := by
  have := val_lt (bs.take 4)
  have h2 : 256 ^ (bs.take 4).length ≤ 256 ^ 4 := Nat.pow_le_pow_right (by decide) (by rw [List.length_take]; omega)
  have h3 : (256 : Nat) ^ 4 = 4294967296 := by decide
  omega

theorem hide {p : Prop} (h : p) : Hid p := h

/-- cut, where it answers true: the piece's address as a letter -/
theorem cut_some (w : World) (b d o cap skip n : Nat) (bs : List UInt8) (hr : Rd w b d o cap bs) (hs : skip + n ≤ bs.length) :
    Calls Try.prog 34 #[.pointer (some ⟨b, 0, none⟩), .int .i64 skip, .int .i64 n] w fun e w' =>
      ∃ o', (∀ j, j < n → w.cell? ⟨d, o' + j, none⟩ = w.cell? ⟨d, o + (skip + j), none⟩) ∧ e = .returned (.tuple #[.slice (some ⟨d, o', none⟩) n n, .bool true]) ∧ w' = w := by
  refine (cut_ok w b d o bs.length cap skip n hr.made hr.left hr.room hr.few hs).mono ?_
  rintro e w' ⟨rfl, rfl⟩
  by_cases h : n = 0
  · subst h
    exact ⟨o, fun j hj => absurd hj (Nat.not_lt_zero _), by simp, rfl⟩
  · exact ⟨o + skip, fun j _ => by rw [Nat.add_assoc], by simp [h], rfl⟩

theorem conv_piece (w : World) (d o o' cap skip n : Nat) (bs : List UInt8) (hn : skip + n ≤ bs.length) (hc : ∀ i (h : i < bs.length), w.cell? ⟨d, o + i, none⟩ = some (.int .u8 bs[i].toNat))
    (ho : ∀ j, j < n → w.cell? ⟨d, o' + j, none⟩ = w.cell? ⟨d, o + (skip + j), none⟩) :
    (convert 49 9 (.slice (some ⟨d, o', none⟩) n cap)).run Try.prog w = .ok (.string ⟨((bs.drop skip).take n).toArray⟩) w := by
  have hl : ((bs.drop skip).take n).length = n := by rw [List.length_take, List.length_drop]; omega
  have h := run_convert_bytes_back (P := Try.prog) w 49 9 5 ⟨d, o', none⟩ cap ((bs.drop skip).take n) Try.underlying49 Try.underlying5 Try.underlying9
    (fun j hj => by
      have hj' : j < n := by omega
      have hs : skip + j < bs.length := by omega
      have := hc (skip + j) hs
      rw [List.getElem_take, List.getElem_drop]
      have e : (⟨d, o', none⟩ : Addr).add j = ⟨d, o' + j, none⟩ := by simp [Addr.add]
      rw [e, ho j hj']
      exact this)
  rw [hl] at h
  exact h

theorem conv_none (w : World) (cap : Nat) : (convert 49 9 (.slice none 0 cap)).run Try.prog w = .ok (.string ⟨#[]⟩) w := by
  rw [run_convert_bytes_string w 49 9 5 none 0 cap Try.underlying49 Try.underlying5 Try.underlying9]
  rfl

set_option maxHeartbeats 1000000 in
theorem text_yes (w : World) (b d o cap most : Nat) (bs : List UInt8) (hr : Rd w b d o cap bs) (h4 : 4 ≤ bs.length) (hm : val (bs.take 4) ≤ most) (hw : 4 + val (bs.take 4) ≤ bs.length) (hmm : most < 9223372036854775808) :
    Calls Try.prog 33 #[.func (Fn.func 34) #[.pointer (some ⟨b, 0, none⟩)] #[], .int .i64 most] w fun e w' =>
      e = .returned (.tuple #[.string ⟨(txt bs).toArray⟩, .bool true]) ∧ w' = w := by
  have h32 := val4_lt bs
  have N := hide (number_ok w b d o cap 4 bs hr (by decide) (by decide) h4)
  unfold txt
  generalize val (bs.take 4) = n at *
  have C := hide (cut_some w b d o cap 4 n bs hr hw)
  have hfew := hr.few
  go_enter Try.func33, Try.ntmps33
  go_wp2_with fail
  refine N.out.mono ?_
  rintro e w1 ⟨rfl, rfl⟩
  go_wp2_with fail
  refine C.out.mono ?_
  rintro e w1 ⟨o', ho, rfl, rfl⟩
  have hv := conv_piece _ d o o' n 4 n bs hw hr.cells ho
  clear ho N C
  go_wp2
  go_ret2
  exact ⟨rfl, rfl⟩

set_option maxHeartbeats 1000000 in
theorem text_no (w : World) (b d o cap : Nat) (most : Int) (bs : List UInt8) (hr : Rd w b d o cap bs) (hlo : -9223372036854775808 ≤ most) (hmm : most < 9223372036854775808)
    (h : bs.length < 4 ∨ most < 0 ∨ most < val (bs.take 4) ∨ bs.length < 4 + val (bs.take 4)) :
    Calls Try.prog 33 #[.func (Fn.func 34) #[.pointer (some ⟨b, 0, none⟩)] #[], .int .i64 most] w fun e w' =>
      e = .returned (.tuple #[.string ⟨#[]⟩, .bool false]) ∧ w' = w := by
  have hfew := hr.few
  have h32 := val4_lt bs
  by_cases h4 : bs.length < 4
  · clear h
    have N := hide (number_short w b d o cap 4 bs hr (by decide) (by decide) h4)
    go_enter Try.func33, Try.ntmps33
    go_wp2_with fail
    refine N.out.mono ?_
    rintro e w1 ⟨rfl, rfl⟩
    go_wp2
    go_ret2
    exact ⟨rfl, rfl⟩
  have N := hide (number_ok w b d o cap 4 bs hr (by decide) (by decide) (by omega))
  by_cases h5 : most < 0
  · clear h
    generalize val (bs.take 4) = n at *
    go_enter Try.func33, Try.ntmps33
    go_wp2_with fail
    refine N.out.mono ?_
    rintro e w1 ⟨rfl, rfl⟩
    go_wp2
    go_ret2
    exact ⟨rfl, rfl⟩
  obtain ⟨m, rfl⟩ := Int.eq_ofNat_of_zero_le (Int.not_lt.1 h5)
  have hm63 : m < 9223372036854775808 := by omega
  clear hlo hmm h5
  by_cases h6 : m < val (bs.take 4)
  · clear h
    generalize val (bs.take 4) = n at *
    go_enter Try.func33, Try.ntmps33
    go_wp2_with fail
    refine N.out.mono ?_
    rintro e w1 ⟨rfl, rfl⟩
    go_wp2
    go_ret2
    exact ⟨rfl, rfl⟩
  have h7 : bs.length < 4 + val (bs.take 4) := by omega
  clear h
  generalize val (bs.take 4) = n at *
  have C := hide (cut_no w b d o bs.length cap 4 n hr.made hr.left hr.few (by omega))
  have hv := conv_none w 0
  go_enter Try.func33, Try.ntmps33
  go_wp2_with fail
  refine N.out.mono ?_
  rintro e w1 ⟨rfl, rfl⟩
  go_wp2_with fail
  refine C.out.mono ?_
  rintro e w1 ⟨rfl, rfl⟩
  clear N C
  go_wp2
  go_ret2
  exact ⟨rfl, rfl⟩

theorem text_nil (w : World) (most : Int) :
    Calls Try.prog 33 #[.func (Fn.func 34) #[.pointer none] #[], .int .i64 most] w fun e w' =>
      e = .returned (.tuple #[.string ⟨#[]⟩, .bool false]) ∧ w' = w := by
  have N := hide (number_nil w 4 (by decide) (by decide))
  go_enter Try.func33, Try.ntmps33
  go_wp2_with fail
  refine N.out.mono ?_
  rintro e w1 ⟨rfl, rfl⟩
  go_wp2
  go_ret2
  exact ⟨rfl, rfl⟩
end Go.Proofs.Ytdgjdfpblenogaa
