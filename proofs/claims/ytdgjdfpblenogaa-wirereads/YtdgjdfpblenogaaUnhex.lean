/-
  Unhex: what it answers.
-/
import Derived.Test.YtdgjdfpblenogaaHalf
namespace Go.Proofs.Ytdgjdfpblenogaa
open Go.RowKit

theorem unhex_step (l : List UInt8) (j : Nat) (h : j + 1 < l.length) : unhex (l.drop j) = match dv l[j].toNat, dv l[j + 1].toNat with
    | some x, some y => (unhex (l.drop (j + 2))).map (UInt8.ofNat (x * 16 + y) :: ·)
    | _, _ => none := by
  have e : l.drop j = l[j] :: l[j + 1] :: l.drop (j + 2) := by
    rw [List.drop_eq_getElem_cons (by omega), List.drop_eq_getElem_cons (h)]
  rw [e, unhex]
  rfl

/-- how far Unhex has come -/
def UInv (l : List UInt8) (j : Nat) (acc : List UInt8) : Prop := 2 * acc.length = j ∧ unhex l = (unhex (l.drop j)).map (acc ++ ·)

theorem UInv.start (l : List UInt8) : UInv l 0 [] := ⟨rfl, by simp⟩

theorem UInv.next {l : List UInt8} {j : Nat} {acc : List UInt8} (h : UInv l j acc) (hj : j + 1 < l.length) {x y : Nat} (hx : dv l[j].toNat = some x) (hy : dv l[j + 1].toNat = some y) : UInv l (j + 2) (acc ++ [UInt8.ofNat (x * 16 + y)]) := by
  obtain ⟨h1, h2⟩ := h
  refine ⟨by simp; omega, ?_⟩
  rw [h2, unhex_step l j hj, hx, hy]
  simp only [Option.map_map]
  congr 1
  funext r
  simp

theorem UInv.stop {l : List UInt8} {j : Nat} {acc : List UInt8} (h : UInv l j acc) (hj : l.length ≤ j) : unhex l = some acc := by
  obtain ⟨_, h2⟩ := h
  rw [h2, List.drop_of_length_le hj, unhex]
  simp

theorem UInv.bad {l : List UInt8} {j : Nat} {acc : List UInt8} (h : UInv l j acc) (hj : j + 1 < l.length) (hb : dv l[j].toNat = none ∨ dv l[j + 1].toNat = none) : unhex l = none := by
  obtain ⟨_, h2⟩ := h
  rw [h2, unhex_step l j hj]
  rcases hb with hb | hb
  · rw [hb]; rfl
  · rw [hb]; cases dv l[j].toNat <;> rfl

theorem unhex_odd : ∀ l : List UInt8, l.length % 2 ≠ 0 → unhex l = none
  | [], h => by simp at h
  | [_], _ => rfl
  | a :: b :: r, h => by
    have := unhex_odd r (by simp at h; omega)
    rw [unhex, this]
    cases dv a.toNat <;> cases dv b.toNat <;> rfl

/-- what a call answers -/
def two (r : Option (List UInt8)) : Value := match r with
  | some l => .tuple #[.string ⟨l.toArray⟩, .bool true]
  | none => .tuple #[.string ⟨#[]⟩, .bool false]

theorem str_get (s : ByteArray) (j : Nat) (h : j < s.size) (h' : j < s.data.toList.length) : s.data.toList[j] = s[j]'h := by
  rw [Array.getElem_toList]
  exact (rfl : s.data[j] = s[j]'h)

theorem or4 (x y : Nat) (hx : x < 16) (hy : y < 16) : bits .or .u8 ((x : Int) * 16) (y : Int) = ((UInt8.ofNat (x * 16 + y)).toNat : Int) := by
  have e2 : (x : Int) * 16 = ((x * 16 : Nat) : Int) := by omega
  rw [e2, u8_or_nat (x * 16) y (by omega) (by omega), nat_join 4 (x * 16) y (by omega) (by omega), UInt8.toNat_ofNat', Nat.mod_eq_of_lt (by omega)]

set_option maxHeartbeats 2000000 in
theorem Unhex_any (w : World) (s : ByteArray) (hs : s.size ≤ 1000000) :
    Calls Try.prog 8 #[.string s] w fun e w' => e = .returned (two (unhex s.data.toList)) ∧ Below w.heap.size w w' := by
  obtain ⟨i0, hi, hz0, hz1, hz2⟩ := info_parts info5
  have hsl := hide (str_length s)
  by_cases hodd : s.size % 2 = 0
  · have hev : (((s.size : Int) % 2) != 0) = false := by simp; omega
    go_enter Try.func8, Try.ntmps8
    go_wp2_with (at_make; refine wpList_make_own _ rfl (.const (.int .i64 0)) (.tmp 16) 49 rfl w.heap.size 5 i0 (.int .u8 0) 1 Try.underlying49 hi hz0 hz1 .i64 .i64 _ (s.size / 2) rfl rfl (by omega) (by rw [hz2]; omega) (by unfold maxLen; omega) (Nat.le_refl _) ?_; intro w1 hown1 hg1)
    have L : Below w.heap.size w w1 := (Below.refl _ w).grown hg1 (Nat.le_refl _) (fun k h => by cases h)
    have O : Owns w1 w.heap.size (.slice (some ⟨w.heap.size, 0, none⟩) 0 (s.size / 2)) [] := hown1
    clear hown1 hg1 hev
    go_loopw [4, 5] (fun o i wr => ∃ (j : Nat) (acc : List UInt8), j ≤ s.size ∧ i = .int .i64 j ∧ Hid (UInv s.data.toList j acc) ∧ Owns wr w.heap.size o acc ∧ Below w.heap.size w wr) (fun _ i _ => s.size - (intOf i).toNat)
    case atStart => exact ⟨0, [], Nat.zero_le _, rfl, UInv.start _, O, L⟩
    case round =>
      clear O L
      obtain ⟨j, acc, hj, rfl, hinv, hown, hbel⟩ := hrel
      have hal : 2 * acc.length ≤ 1000000 := by have := hinv.out.1; omega
      by_cases hlt : j < s.size
      · have hj1 : j + 1 < s.size := by have := hinv.out.1; omega
        have g0 := hide (str_get s j hlt (by rw [hsl.out]; exact hlt))
        have g1 := hide (str_get s (j + 1) hj1 (by rw [hsl.out]; exact hj1))
        have b0 : s[j].toNat < 256 := UInt8.toNat_lt _
        have b1 : s[j + 1].toNat < 256 := UInt8.toNat_lt _
        rcases hx : dv s[j].toNat with _ | x
        · have H0 := hide (half_no wr s[j].toNat b0 hx)
          have hfin : Hid (unhex s.data.toList = none) := hinv.out.bad (by rw [hsl.out]; exact hj1) (.inl (by rw [g0.out]; exact hx))
          rcases hy : dv s[j + 1].toNat with _ | y
          · have H1 := hide (half_no wr s[j + 1].toNat b1 hy)
            clear hx hy hinv g0 g1
            go_wp2_with fail
            refine H0.out.mono ?_
            rintro e w3 ⟨rfl, rfl⟩
            go_wp2_with fail
            refine H1.out.mono ?_
            rintro e w3 ⟨rfl, rfl⟩
            go_wp2
            go_ret2
            rw [hfin.out]
            exact ⟨rfl, hbel⟩
          · have H1 := hide (half_yes wr s[j + 1].toNat y b1 hy)
            clear hx hy hinv g0 g1
            go_wp2_with fail
            refine H0.out.mono ?_
            rintro e w3 ⟨rfl, rfl⟩
            go_wp2_with fail
            refine H1.out.mono ?_
            rintro e w3 ⟨rfl, rfl⟩
            go_wp2
            go_ret2
            rw [hfin.out]
            exact ⟨rfl, hbel⟩
        · have H0 := hide (half_yes wr s[j].toNat x b0 hx)
          have hx16 := dv_lt hx
          rcases hy : dv s[j + 1].toNat with _ | y
          · have H1 := hide (half_no wr s[j + 1].toNat b1 hy)
            have hfin : Hid (unhex s.data.toList = none) := hinv.out.bad (by rw [hsl.out]; exact hj1) (.inr (by rw [g1.out]; exact hy))
            clear hx hy hinv g0 g1
            go_wp2_with fail
            refine H0.out.mono ?_
            rintro e w3 ⟨rfl, rfl⟩
            go_wp2_with fail
            refine H1.out.mono ?_
            rintro e w3 ⟨rfl, rfl⟩
            go_wp2
            go_ret2
            rw [hfin.out]
            exact ⟨rfl, hbel⟩
          · have H1 := hide (half_yes wr s[j + 1].toNat y b1 hy)
            have hy16 := dv_lt hy
            have hnext := hide (hinv.out.next (by rw [hsl.out]; exact hj1) (by rw [g0.out]; exact hx) (by rw [g1.out]; exact hy))
            clear hx hy hinv g0 g1
            go_wp2_with fail
            refine H0.out.mono ?_
            rintro e w3 ⟨rfl, rfl⟩
            go_wp2_with fail
            refine H1.out.mono ?_
            rintro e w3 ⟨rfl, rfl⟩
            clear H0 H1
            go_wp2_with (at_builtin; refine wpList_append_own _ rfl (.tmp 45) (.tmp 50) 49 rfl w.heap.size 5 i0 (.int .u8 0) 1 1 Try.underlying49 hi hz0 hz1 hz2 rfl (by decide) _ acc.length (cs acc) rfl (World.ownsRow.alloc hown _) ⟨w3.heap.size, 0, none⟩ 1 1 [.int .u8 (bits .or .u8 ((x : Int) * 16) y)] rfl rfl (news_one _ _) (one_one _ _) (by unfold maxLen; omega) (by omega) (by have := hbel.size; simp; omega) ?_; intro v4 w4 hown4 hg4 hn4)
            have P1 := push_byte (or4 x y hx16 hy16) hown4
            have P2 := push_below hbel (Nat.le_refl _) hown hg4
            clear hown4 hg4 hn4 hown hbel
            go_wp2
            go_roundw
            case rel => exact ⟨j + 2, _, by omega, int_eq (by omega), hnext, P1, P2⟩
            case measure => simp [intOf]; omega
      · have hfin := hinv.out.stop (by rw [hsl.out]; omega)
        have HF := hide hfin
        clear hfin
        have HS := hown.str
        go_wp2
        go_ret2
        rw [HF.out]
        exact ⟨rfl, hbel⟩
  · have hfin := hide (unhex_odd s.data.toList (by rw [str_length]; exact hodd))
    have hev : (((s.size : Int) % 2) != 0) = true := by simp; omega
    go_enter Try.func8, Try.ntmps8
    go_wp2
    go_ret2
    rw [hfin.out]
    exact ⟨rfl, Below.refl _ _⟩
end Go.Proofs.Ytdgjdfpblenogaa
