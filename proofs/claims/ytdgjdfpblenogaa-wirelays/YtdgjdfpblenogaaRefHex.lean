/-
  The document's own Hex, half and Unhex: what they answer.
-/
import Derived.Test.YtdgjdfpblenogaaRefPut
import Derived.Deep.QuietTactic
import Derived.BigQuiet
namespace Go.Proofs.Ytdgjdfpblenogaa
open Go.RowKit

theorem rhalf_any (w : World) (c : Nat) (hc : c < 256) :
    Calls Try.prog 28 #[.int .u8 c] w fun e w' => e = .returned (.int .u8 (((dv c).getD 16 : Nat) : Int)) ∧ w' = w := by
  unfold dv
  by_cases h1 : 48 ≤ c ∧ c ≤ 57
  · rw [if_pos h1]
    obtain ⟨h2, h3⟩ := h1
    go_enter Try.func28, Try.ntmps28
    go_wp2
    go_ret
    exact ⟨congrArg Ending.returned (int_eq (by simp; omega)), rfl⟩
  · rw [if_neg h1]
    by_cases h2 : 97 ≤ c ∧ c ≤ 102
    · rw [if_pos h2]
      obtain ⟨h3, h4⟩ := h2
      have h5 : ¬ c ≤ 57 := by omega
      clear h1
      go_enter Try.func28, Try.ntmps28
      go_wp2
      go_ret
      exact ⟨congrArg Ending.returned (int_eq (by simp; omega)), rfl⟩
    · rw [if_neg h2]
      by_cases a1 : c < 48
      · clear h1 h2
        go_enter Try.func28, Try.ntmps28
        go_wp2
        go_ret
        exact ⟨rfl, rfl⟩
      by_cases a2 : c < 97
      · have a3 : 57 < c := by omega
        clear h1 h2
        go_enter Try.func28, Try.ntmps28
        go_wp2
        go_ret
        exact ⟨rfl, rfl⟩
      · have a3 : 102 < c := by omega
        clear h1 h2
        go_enter Try.func28, Try.ntmps28
        go_wp2
        go_ret
        exact ⟨rfl, rfl⟩
theorem add4 (x y : Nat) (hx : x < 16) (hy : y < 16) : (x : Int) * 16 + (y : Int) = ((UInt8.ofNat (x * 16 + y)).toNat : Int) := by
  rw [UInt8.toNat_ofNat', Nat.mod_eq_of_lt (by omega)]
  omega

theorem rhalf_of (w : World) (c x : Nat) (hc : c < 256) (h : (dv c).getD 16 = x) :
    Calls Try.prog 28 #[.int .u8 c] w fun e w' => e = .returned (.int .u8 (x : Int)) ∧ w' = w := by
  subst h
  exact rhalf_any w c hc

set_option maxRecDepth 100000 in
set_option maxHeartbeats 3000000 in
theorem RUnhex_any (w : World) (s : ByteArray) (hs : s.size ≤ 1000000) :
    Calls Try.prog 9 #[.string s] w fun e w' => e = .returned (two (unhex s.data.toList)) ∧ Below w.heap.size w w' := by
  obtain ⟨i0, hi, hz0, hz1, hz2⟩ := info_parts info5
  have hsl := hide (str_length s)
  by_cases hodd : s.size % 2 = 0
  · have hev : (((s.size : Int) % 2) != 0) = false := by simp; omega
    go_enter Try.func9, Try.ntmps9
    go_wp2_with fail
    clear hev
    go_loopw [4, 5] (fun o i wr => ∃ (j : Nat) (acc : List UInt8), j ≤ s.size ∧ i = .int .i64 j ∧ Hid (UInv s.data.toList j acc) ∧ Owns wr w.heap.size o acc ∧ Below w.heap.size w wr) (fun _ i _ => s.size - (intOf i).toNat)
    case atStart => exact ⟨0, [], Nat.zero_le _, rfl, UInv.start _, World.ownsRow_nil _ _ _ _, Below.refl _ _⟩
    case round =>
      obtain ⟨j, acc, hj, rfl, hinv, hown, hbel⟩ := hrel
      have hal : 2 * acc.length ≤ 1000000 := by have := hinv.out.1; omega
      by_cases hlt : j < s.size
      · have hj1 : j + 1 < s.size := by have := hinv.out.1; omega
        have g0 := hide (str_get s j hlt (by rw [hsl.out]; exact hlt))
        have g1 := hide (str_get s (j + 1) hj1 (by rw [hsl.out]; exact hj1))
        have b0 : s[j].toNat < 256 := UInt8.toNat_lt _
        have b1 : s[j + 1].toNat < 256 := UInt8.toNat_lt _
        have k0 : (0 : Int) ≤ (j : Int) := by omega
        have k1 : (j : Int) < (s.size : Int) := by omega
        have k2 : (0 : Int) ≤ (j : Int) + 1 := by omega
        have k3 : (j : Int) + 1 < (s.size : Int) := by omega
        rcases hx : dv s[j].toNat with _ | x <;> rcases hy : dv s[j + 1].toNat with _ | y
        · have hfin : Hid (unhex s.data.toList = none) := hinv.out.bad (by rw [hsl.out]; exact hj1) (.inl (by rw [g0.out]; exact hx))
          clear hinv g0 g1
          go_wp2_with fail
          go_quiet ((go_at_call 28; exact Calls.quiet_of_same (rhalf_any _ _ (UInt8.toNat_lt _))))
          go_wp2
          go_ret2
          rw [hfin.out]
          exact ⟨rfl, bstep hbel (drewN_below wr nq)⟩
        · have hfin : Hid (unhex s.data.toList = none) := hinv.out.bad (by rw [hsl.out]; exact hj1) (.inl (by rw [g0.out]; exact hx))
          clear hinv g0 g1
          go_wp2_with fail
          go_quiet ((go_at_call 28; exact Calls.quiet_of_same (rhalf_any _ _ (UInt8.toNat_lt _))))
          go_wp2
          go_ret2
          rw [hfin.out]
          exact ⟨rfl, bstep hbel (drewN_below wr nq)⟩
        · have hx16 := dv_lt hx
          have hfin : Hid (unhex s.data.toList = none) := hinv.out.bad (by rw [hsl.out]; exact hj1) (.inr (by rw [g1.out]; exact hy))
          clear hinv g0 g1
          go_wp2_with fail
          go_quiet ((go_at_call 28; exact Calls.quiet_of_same (rhalf_any _ _ (UInt8.toNat_lt _))))
          go_wp2
          go_ret2
          rw [hfin.out]
          exact ⟨rfl, bstep hbel (drewN_below wr nq)⟩
        · have hx16 := dv_lt hx
          have hy16 := dv_lt hy
          have hnext := hide (hinv.out.next (by rw [hsl.out]; exact hj1) (by rw [g0.out]; exact hx) (by rw [g1.out]; exact hy))
          clear hinv g0 g1
          go_wp2_with fail
          go_quiet ((go_at_call 28; exact Calls.quiet_of_same (rhalf_any _ _ (UInt8.toNat_lt _))))
          have hsz := hbel.size
          have Bq := bstep hbel (drewN_below wr nq)
          have Oq : Owns (wr.drewN nq) w.heap.size _ acc := hown
          clear hown hbel
          go_wp2_with (at_builtin; refine wpList_append_own _ rfl (.tmp 33) (.tmp 38) 49 rfl w.heap.size 5 i0 (.int .u8 0) 1 1 Try.underlying49 hi hz0 hz1 hz2 rfl (by decide) _ acc.length (cs acc) rfl (World.ownsRow.alloc Oq _) ⟨wr.heap.size, 0, none⟩ 1 1 [.int .u8 ((x : Int) * 16 + y)] rfl rfl (news_one _ _) (one_one _ _) (by unfold maxLen; omega) (by omega) (by simp; omega) ?_; intro v4 w4 hown4 hg4 hn4)
          have P1 := push_byte (add4 x y hx16 hy16) hown4
          have P2 := push_below Bq (Nat.le_refl _) Oq hg4
          clear hown4 hg4 hn4 Oq Bq
          go_wp2
          go_roundw
          case rel => exact ⟨j + 2, _, by omega, int_eq (by omega), hnext, P1, P2⟩
          case measure => simp [intOf]; omega
      · have hfin := hinv.out.stop (by rw [hsl.out]; omega)
        have HF := hide hfin
        clear hfin
        have HS := hown.str
        go_wp2
        go_ret2
        rw [HF.out]
        exact ⟨rfl, hbel⟩
  · have hfin := hide (unhex_odd s.data.toList (by rw [str_length]; exact hodd))
    have hev : (((s.size : Int) % 2) != 0) = true := by simp; omega
    go_enter Try.func9, Try.ntmps9
    go_wp2
    go_ret2
    rw [hfin.out]
    exact ⟨rfl, Below.refl _ _⟩
set_option maxRecDepth 100000 in
set_option maxHeartbeats 3000000 in
theorem RHex_any (w : World) (s : ByteArray) (hs : s.size ≤ 1000000) :
    Calls Try.prog 15 #[.string s] w fun e w' => e = .returned (.string ⟨(hexl s.data.toList).toArray⟩) ∧ Below w.heap.size w w' := by
  obtain ⟨i0, hi, hz0, hz1, hz2⟩ := info_parts info5
  have hsl := hide (str_length s)
  go_enter Try.func15, Try.ntmps15
  go_wp2_with fail
  go_loopw [3, 4] (fun o i wr => ∃ k : Nat, k ≤ s.size ∧ i = .int .i64 k ∧ Owns wr w.heap.size o (hexl (s.data.toList.take k)) ∧ Below w.heap.size w wr) (fun _ i _ => s.size - (intOf i).toNat)
  case atStart => exact ⟨0, Nat.zero_le _, rfl, World.ownsRow_nil _ _ _ _, Below.refl _ _⟩
  case round =>
    obtain ⟨k, hk, rfl, hown, hbel⟩ := hrel
    by_cases hlt : k < s.size
    · have hT := hide (hexl_take s.data.toList k (by rw [hsl.out]; exact hlt))
      have g0 := hide (str_get s k hlt (by rw [hsl.out]; exact hlt))
      have hal : (hexl (s.data.toList.take k)).length ≤ 2000000 := by rw [hexl_length, List.length_take, hsl.out]; omega
      generalize hacc : hexl (s.data.toList.take k) = acc at *
      have HA := hide hacc
      clear hacc
      have b0 : s[k].toNat < 256 := UInt8.toNat_lt _
      have hk0 : (0 : Int) ≤ (k : Int) := by omega
      have hk1 : (k : Int) < (s.size : Int) := by omega
      have D0 : Hid (((s[k].toNat : Int) / 16).toNat < (⟨#[48, 49, 50, 51, 52, 53, 54, 55, 56, 57, 97, 98, 99, 100, 101, 102]⟩ : ByteArray).size) := by show _ < 16; omega
      have D1 : Hid (((s[k].toNat : Int) % 16).toNat < (⟨#[48, 49, 50, 51, 52, 53, 54, 55, 56, 57, 97, 98, 99, 100, 101, 102]⟩ : ByteArray).size) := by show _ < 16; omega
      have e0 := hide (digit_at ((s[k].toNat : Int) / 16) (s[k].toNat / 16) (by omega) (by omega) D0.out)
      have e1 := hide (digit_at ((s[k].toNat : Int) % 16) (s[k].toNat % 16) (by omega) (by omega) D1.out)
      have q0 : (0 : Int) ≤ (s[k].toNat : Int) / 16 := by omega
      have q1 : (s[k].toNat : Int) / 16 < 16 := by omega
      have q2 : (0 : Int) ≤ (s[k].toNat : Int) % 16 := by omega
      have q3 : (s[k].toNat : Int) % 16 < 16 := by omega
      have qw : IntKind.u8.wrap ((s[k].toNat : Int) / 16) = (s[k].toNat : Int) / 16 := by rw [IntKind.wrap_u8]; omega
      have qv : ((s[k].toNat : Int)).tmod 16 = (s[k].toNat : Int) % 16 := Int.tmod_eq_emod_of_nonneg (by omega)
      go_wp2_with fail
      go_region_held3 (fun _ => True) (trivial)
        ((refine step_append_lies _ (by rfl) _ _ _ (by rfl) w.heap.size 5 i0 _ 1 1 Try.underlying49 hi hz0 hz1 hz2 rfl (by omega) _ acc.length (cs acc) (by rfl) ((World.ownsRow.alloc hown _).drew) ⟨wr.heap.size, 0, none⟩ 2 2 [.int .u8 (((⟨#[48, 49, 50, 51, 52, 53, 54, 55, 56, 57, 97, 98, 99, 100, 101, 102]⟩ : ByteArray)[((s[k].toNat : Int) / 16).toNat]'D0.out).toNat), .int .u8 (((⟨#[48, 49, 50, 51, 52, 53, 54, 55, 56, 57, 97, 98, 99, 100, 101, 102]⟩ : ByteArray)[((s[k].toNat : Int) % 16).toNat]'D1.out).toNat)] (by rfl) (by rfl) (World.news_of_block (cs := #[_, _]) (t := 5) (fr := (0, 0)) (heap_alloc_new wr _)) (two_one _ _ _) (by omega) (by unfold maxLen; omega) (by omega) (by have := hbel.size; simp; omega) (wr.heap.size + 1) (by simp) ?_; intro gg cap w3 hown3 hg3 hat hlt3))
      all_goals
        have P1 := push_two e0.out e1.out hown3
        have P2 := push_below_drew hbel (Nat.le_refl _) hown hg3
        rw [← g0.out, ← hT.out] at P1
        clear hown3 hg3 hat hlt3 hown hbel e0 e1 D0 D1 hT HA g0
        go_wp2
        go_roundw
        case rel => exact ⟨k + 1, by omega, int_eq (by omega), P1, P2⟩
        case measure => simp [intOf]; omega
    · have HS := hown.str
      rw [List.take_of_length_le (by rw [hsl.out]; omega)] at HS
      go_wp2
      go_ret
      exact ⟨rfl, hbel⟩
end Go.Proofs.Ytdgjdfpblenogaa
