/-
  The program's reader and the document's, call by call: both answer the same.
-/
import Derived.Test.YtdgjdfpblenogaaRefReader
namespace Go.Proofs.Ytdgjdfpblenogaa
open Go.RowKit

/-- what Number answers, and what is left -/
def numR (bs : List UInt8) (n : Int) : Nat × Bool × List UInt8 := if 1 ≤ n ∧ n ≤ 8 ∧ n ≤ bs.length then (val (bs.take n.toNat), true, bs.drop n.toNat) else (0, false, bs)
/-- what Take answers, and what is left -/
def takR (bs : List UInt8) (n : Int) : List UInt8 × Bool × List UInt8 := if 0 ≤ n ∧ n ≤ bs.length then (bs.take n.toNat, true, bs.drop n.toNat) else ([], false, bs)
/-- what Text answers, and what is left -/
def txtR (bs : List UInt8) (n : Int) : List UInt8 × Bool × List UInt8 :=
  if 4 ≤ bs.length ∧ 0 ≤ n ∧ (val (bs.take 4) : Int) ≤ n ∧ 4 + val (bs.take 4) ≤ bs.length then (txt bs, true, bs.drop (4 + val (bs.take 4))) else ([], false, bs)

/-- the program's reader has the bytes -/
def PR (w : World) (b d : Nat) (bs : List UInt8) : Prop := ∃ o cap, Rd w b d o cap bs
/-- the document's reader has the bytes -/
def QR (w : World) (b : Nat) (bs : List UInt8) : Prop := ∃ s : ByteArray, w.cell? ⟨b, 0, none⟩ = some (.string s) ∧ w.frozen? ⟨b, 0, none⟩ = false ∧ s.data.toList = bs

theorem Number_all (w : World) (b d : Nat) (n : Int) (bs : List UInt8) (h : PR w b d bs) (hne : d ≠ b) :
    Calls Try.prog 19 #[.pointer (some ⟨b, 0, none⟩), .int .i64 n] w fun e w' =>
      e = .returned (.tuple #[.int .u64 (numR bs n).1, .bool (numR bs n).2.1]) ∧ PR w' b d (numR bs n).2.2 ∧ Only b w w' := by
  obtain ⟨o, cap, hr⟩ := h
  unfold numR
  by_cases hc : 1 ≤ n ∧ n ≤ 8 ∧ n ≤ bs.length
  · rw [if_pos hc]
    obtain ⟨m, rfl⟩ := Int.eq_ofNat_of_zero_le (show 0 ≤ n by omega)
    exact Number_yes w b d o cap m bs hr hne (by omega) (by omega) (by omega)
  · rw [if_neg hc]
    refine (Number_no w b d o cap n bs hr (by omega)).mono ?_
    rintro e w' ⟨rfl, rfl⟩
    exact ⟨rfl, ⟨o, cap, hr⟩, Only.refl _ _⟩

theorem Take_all (w : World) (b d : Nat) (n : Int) (bs : List UInt8) (h : PR w b d bs) (hne : d ≠ b) :
    Calls Try.prog 23 #[.pointer (some ⟨b, 0, none⟩), .int .i64 n] w fun e w' =>
      e = .returned (.tuple #[.string ⟨(takR bs n).1.toArray⟩, .bool (takR bs n).2.1]) ∧ PR w' b d (takR bs n).2.2 ∧ Only b w w' := by
  obtain ⟨o, cap, hr⟩ := h
  unfold takR
  by_cases hc : 0 ≤ n ∧ n ≤ bs.length
  · rw [if_pos hc]
    obtain ⟨m, rfl⟩ := Int.eq_ofNat_of_zero_le hc.1
    exact Take_yes w b d o cap m bs hr hne (by omega)
  · rw [if_neg hc]
    refine (Take_no w b d o cap n bs hr (by omega)).mono ?_
    rintro e w' ⟨rfl, rfl⟩
    exact ⟨rfl, ⟨o, cap, hr⟩, Only.refl _ _⟩

theorem Text_all (w : World) (b d : Nat) (n : Int) (bs : List UInt8) (h : PR w b d bs) (hne : d ≠ b) (hlo : -9223372036854775808 ≤ n) (hhi : n < 9223372036854775808) :
    Calls Try.prog 21 #[.pointer (some ⟨b, 0, none⟩), .int .i64 n] w fun e w' =>
      e = .returned (.tuple #[.string ⟨(txtR bs n).1.toArray⟩, .bool (txtR bs n).2.1]) ∧ PR w' b d (txtR bs n).2.2 ∧ Only b w w' := by
  obtain ⟨o, cap, hr⟩ := h
  unfold txtR
  by_cases hc : 4 ≤ bs.length ∧ 0 ≤ n ∧ (val (bs.take 4) : Int) ≤ n ∧ 4 + val (bs.take 4) ≤ bs.length
  · rw [if_pos hc]
    obtain ⟨m, rfl⟩ := Int.eq_ofNat_of_zero_le hc.2.1
    exact Text_yes w b d o cap m bs hr hne (by omega) (by omega) (by omega) (by omega)
  · rw [if_neg hc]
    refine (Text_no w b d o cap n bs hr hlo hhi (by omega)).mono ?_
    rintro e w' ⟨rfl, rfl⟩
    exact ⟨rfl, ⟨o, cap, hr⟩, Only.refl _ _⟩

theorem QR.set {w : World} {b : Nat} {s t : ByteArray} (hc : w.cell? ⟨b, 0, none⟩ = some (.string s)) (hf : w.frozen? ⟨b, 0, none⟩ = false) : QR (w.setCell ⟨b, 0, none⟩ (.string t)) b t.data.toList :=
  ⟨t, World.cell?_setCell_same _ _ _ hc, by rw [World.frozen?_setCell]; exact hf, rfl⟩

theorem rNumber_all (w : World) (b : Nat) (n : Int) (bs : List UInt8) (h : QR w b bs) :
    Calls Try.prog 20 #[.pointer (some ⟨b, 0, none⟩), .int .i64 n] w fun e w' =>
      e = .returned (.tuple #[.int .u64 (numR bs n).1, .bool (numR bs n).2.1]) ∧ QR w' b (numR bs n).2.2 ∧ Only b w w' := by
  obtain ⟨s, hc, hf, rfl⟩ := h
  have hl := str_length s
  unfold numR
  by_cases hcc : 1 ≤ n ∧ n ≤ 8 ∧ n ≤ s.data.toList.length
  · rw [if_pos hcc]
    obtain ⟨m, rfl⟩ := Int.eq_ofNat_of_zero_le (show 0 ≤ n by omega)
    refine (rNumber_yes w b m s hc hf (by omega) (by omega) (by omega)).mono ?_
    rintro e w' ⟨rfl, rfl⟩
    refine ⟨rfl, ?_, Only.setCell _ _ _ _⟩
    have := QR.set (t := s.extract m s.size) hc hf
    rw [ext_drop] at this
    exact this
  · rw [if_neg hcc]
    refine (rNumber_no w b n s hc (by omega)).mono ?_
    rintro e w' ⟨rfl, rfl⟩
    exact ⟨rfl, ⟨s, hc, hf, rfl⟩, Only.refl _ _⟩

theorem ext_str (s : ByteArray) (l : List UInt8) (h : s.data.toList = l) : s = ⟨l.toArray⟩ := by
  subst h
  apply ByteArray.ext
  simp

theorem rTake_all (w : World) (b : Nat) (n : Int) (bs : List UInt8) (h : QR w b bs) :
    Calls Try.prog 24 #[.pointer (some ⟨b, 0, none⟩), .int .i64 n] w fun e w' =>
      e = .returned (.tuple #[.string ⟨(takR bs n).1.toArray⟩, .bool (takR bs n).2.1]) ∧ QR w' b (takR bs n).2.2 ∧ Only b w w' := by
  obtain ⟨s, hc, hf, rfl⟩ := h
  have hl := str_length s
  unfold takR
  by_cases hcc : 0 ≤ n ∧ n ≤ s.data.toList.length
  · rw [if_pos hcc]
    obtain ⟨m, rfl⟩ := Int.eq_ofNat_of_zero_le hcc.1
    refine (rTake_yes w b m s hc hf (by omega)).mono ?_
    rintro e w' ⟨rfl, rfl⟩
    refine ⟨by rw [ext_str _ _ (ext_take s m)]; rfl, ?_, Only.setCell _ _ _ _⟩
    have := QR.set (t := s.extract m s.size) hc hf
    rw [ext_drop] at this
    exact this
  · rw [if_neg hcc]
    refine (rTake_no w b n s hc (by omega)).mono ?_
    rintro e w' ⟨rfl, rfl⟩
    exact ⟨rfl, ⟨s, hc, hf, rfl⟩, Only.refl _ _⟩

theorem rText_all (w : World) (b : Nat) (n : Int) (bs : List UInt8) (h : QR w b bs) (hlen : bs.length ≤ 1000000) (hlo : -9223372036854775808 ≤ n) (hhi : n < 9223372036854775808) :
    Calls Try.prog 22 #[.pointer (some ⟨b, 0, none⟩), .int .i64 n] w fun e w' =>
      e = .returned (.tuple #[.string ⟨(txtR bs n).1.toArray⟩, .bool (txtR bs n).2.1]) ∧ QR w' b (txtR bs n).2.2 ∧ Only b w w' := by
  obtain ⟨s, hc, hf, rfl⟩ := h
  have hl := str_length s
  unfold txtR
  by_cases hcc : 4 ≤ s.data.toList.length ∧ 0 ≤ n ∧ (val (s.data.toList.take 4) : Int) ≤ n ∧ 4 + val (s.data.toList.take 4) ≤ s.data.toList.length
  · rw [if_pos hcc]
    obtain ⟨m, rfl⟩ := Int.eq_ofNat_of_zero_le hcc.2.1
    refine (rText_yes w b m s hc hf (by omega) (by omega) (by omega) (by omega) (by omega)).mono ?_
    rintro e w' ⟨rfl, rfl⟩
    refine ⟨by rw [ext_str _ _ (ext_mid s (val (s.data.toList.take 4)))], ?_, Only.setCell _ _ _ _⟩
    have := QR.set (t := s.extract (4 + val (s.data.toList.take 4)) s.size) hc hf
    rw [ext_drop] at this
    exact this
  · rw [if_neg hcc]
    refine (rText_no w b n s hc (by omega) hlo hhi (by omega)).mono ?_
    rintro e w' ⟨rfl, rfl⟩
    exact ⟨rfl, ⟨s, hc, hf, rfl⟩, Only.refl _ _⟩

theorem rLeft_all (w : World) (b : Nat) (bs : List UInt8) (h : QR w b bs) :
    Calls Try.prog 26 #[.pointer (some ⟨b, 0, none⟩)] w fun e w' => e = .returned (.int .i64 bs.length) ∧ w' = w := by
  obtain ⟨s, hc, _, rfl⟩ := h
  rw [str_length]
  exact rLeft_any w b s hc

theorem Left_all (w : World) (b d : Nat) (bs : List UInt8) (h : PR w b d bs) :
    Calls Try.prog 25 #[.pointer (some ⟨b, 0, none⟩)] w fun e w' => e = .returned (.int .i64 bs.length) ∧ w' = w := by
  obtain ⟨o, cap, hr⟩ := h
  exact Left_rd w b d o cap bs hr

theorem PR.kept {w w' : World} {b d : Nat} {bs : List UInt8} (h : PR w b d bs) (hb : w'.heap[b]? = w.heap[b]?) (hd : w'.heap[d]? = w.heap[d]?) : PR w' b d bs := by
  obtain ⟨o, cap, hr⟩ := h
  exact ⟨o, cap, hr.kept hb hd⟩

theorem QR.kept {w w' : World} {b : Nat} {bs : List UInt8} (h : QR w b bs) (hb : w'.heap[b]? = w.heap[b]?) : QR w' b bs := by
  obtain ⟨s, h1, h2, h3⟩ := h
  exact ⟨s, (World.cell?_of_block (w := w) hb).trans h1, (World.frozen?_of_block (w := w) hb).trans h2, h3⟩

theorem PR.few {w : World} {b d : Nat} {bs : List UInt8} (h : PR w b d bs) : bs.length ≤ 1000000 := by
  obtain ⟨o, cap, hr⟩ := h
  exact hr.few
end Go.Proofs.Ytdgjdfpblenogaa
