/-
  Hex: what it answers.
-/
import Derived.Test.YtdgjdfpblenogaaUnhex
import Derived.Deep.RegionHeld3
import Derived.Deep.AppendLies
namespace Go.Proofs.Ytdgjdfpblenogaa
open Go.RowKit

/-- the digit of a half -/
def dg (n : Nat) : UInt8 := if n < 10 then UInt8.ofNat (48 + n) else UInt8.ofNat (87 + n)

/-- the digits of bytes -/
def hexl (l : List UInt8) : List UInt8 := l.flatMap fun c => [dg (c.toNat / 16), dg (c.toNat % 16)]

theorem hexl_length (l : List UInt8) : (hexl l).length = 2 * l.length := by
  induction l with
  | nil => rfl
  | cons c l ih =>
    have e : hexl (c :: l) = [dg (c.toNat / 16), dg (c.toNat % 16)] ++ hexl l := by simp [hexl]
    rw [e, List.length_append, ih]; simp; omega

theorem hexl_take (l : List UInt8) (k : Nat) (h : k < l.length) : hexl (l.take (k + 1)) = hexl (l.take k) ++ [dg (l[k].toNat / 16), dg (l[k].toNat % 16)] := by
  rw [List.take_succ_eq_append_getElem h, hexl, List.flatMap_append]
  rfl

theorem digit_fin : ∀ i : Fin 16, (#[48, 49, 50, 51, 52, 53, 54, 55, 56, 57, 97, 98, 99, 100, 101, 102] : Array UInt8)[i.val] = dg i.val := by decide

theorem digit_at (c : Int) (n : Nat) (e : c = (n : Int)) (hn : n < 16) (h : c.toNat < (⟨#[48, 49, 50, 51, 52, 53, 54, 55, 56, 57, 97, 98, 99, 100, 101, 102]⟩ : ByteArray).size) :
    (((⟨#[48, 49, 50, 51, 52, 53, 54, 55, 56, 57, 97, 98, 99, 100, 101, 102]⟩ : ByteArray)[c.toNat]'h).toNat : Int) = ((dg n).toNat : Int) := by
  subst e
  have := digit_fin ⟨n, hn⟩
  rw [← this]
  rfl

/-- two bytes more are owned -/
theorem push_two {w1 : World} {B : Nat} {o : Value} {l : List UInt8} {c d : UInt8} {x y : Int} (hx : x = (c.toNat : Int)) (hy : y = (d.toNat : Int)) (h : w1.ownsRow B 5 1 o (l.length + 2) (cs l ++ [.int .u8 x, .int .u8 y])) : Owns w1 B o (l ++ [c, d]) := by
  unfold Owns
  rw [cs_append, List.length_append]
  subst hx hy
  exact h

theorem push_below_drew {w wr w1 : World} {B : Nat} {o : Value} {l : List UInt8} {x : Obj} (hb : Below B w wr) (hB : B ≤ w.heap.size) (hown : Owns wr B o l) (hg : ((wr.alloc x).drew).grownBy w1 o.ownBlock) : Below B w w1 :=
  push_below hb hB hown (x := x) ⟨hg.os, hg.tape, hg.output, hg.size, hg.block⟩

theorem two_one (k : IntKind) (x y : Int) : ∀ u ∈ [Value.int k x, Value.int k y], u.oneCell' = true := by
  intro u h
  simp at h
  rcases h with rfl | rfl <;> rfl

set_option maxRecDepth 100000 in
set_option maxHeartbeats 3000000 in
theorem Hex_any (w : World) (s : ByteArray) (hs : s.size ≤ 1000000) :
    Calls Try.prog 14 #[.string s] w fun e w' => e = .returned (.string ⟨(hexl s.data.toList).toArray⟩) ∧ Below w.heap.size w w' := by
  obtain ⟨i0, hi, hz0, hz1, hz2⟩ := info_parts info5
  have hsl := hide (str_length s)
  go_enter Try.func14, Try.ntmps14
  go_wp2_with (at_make; refine wpList_make_own _ rfl (.const (.int .i64 0)) (.tmp 7) 49 rfl w.heap.size 5 i0 (.int .u8 0) 1 Try.underlying49 hi hz0 hz1 .i64 .i64 _ (2 * s.size) rfl rfl (by omega) (by rw [hz2]; omega) (by unfold maxLen; omega) (Nat.le_refl _) ?_; intro w1 hown1 hg1)
  have L : Below w.heap.size w w1 := (Below.refl _ w).grown hg1 (Nat.le_refl _) (fun k h => by cases h)
  have O : Owns w1 w.heap.size (.slice (some ⟨w.heap.size, 0, none⟩) 0 (2 * s.size)) [] := hown1
  clear hown1 hg1
  go_loopw [3, 11] (fun o i wr => ∃ k : Nat, k ≤ s.size ∧ i = .int .i64 k ∧ Owns wr w.heap.size o (hexl (s.data.toList.take k)) ∧ Below w.heap.size w wr) (fun _ i _ => s.size - (intOf i).toNat)
  case atStart => exact ⟨0, Nat.zero_le _, rfl, O, L⟩
  case round =>
    clear O L
    obtain ⟨k, hk, rfl, hown, hbel⟩ := hrel
    by_cases hlt : k < s.size
    · have hT := hide (hexl_take s.data.toList k (by rw [hsl.out]; exact hlt))
      have g0 := hide (str_get s k hlt (by rw [hsl.out]; exact hlt))
      have hal : (hexl (s.data.toList.take k)).length ≤ 2000000 := by rw [hexl_length, List.length_take, hsl.out]; omega
      generalize hacc : hexl (s.data.toList.take k) = acc at *
      have HA := hide hacc
      clear hacc
      have b0 : s[k].toNat < 256 := UInt8.toNat_lt _
      have hk0 : (0 : Int) ≤ (k : Int) := by omega
      have hk1 : (k : Int) < (s.size : Int) := by omega
      have hand : bits .and .u8 (s[k].toNat : Int) 15 = (s[k].toNat : Int) % 16 := u8_and15 _ (by omega) (by omega)
      have D0 : Hid (((s[k].toNat : Int) / 16).toNat < (⟨#[48, 49, 50, 51, 52, 53, 54, 55, 56, 57, 97, 98, 99, 100, 101, 102]⟩ : ByteArray).size) := by show _ < 16; omega
      have D1 : Hid (((s[k].toNat : Int) % 16).toNat < (⟨#[48, 49, 50, 51, 52, 53, 54, 55, 56, 57, 97, 98, 99, 100, 101, 102]⟩ : ByteArray).size) := by show _ < 16; omega
      have e0 := hide (digit_at ((s[k].toNat : Int) / 16) (s[k].toNat / 16) (by omega) (by omega) D0.out)
      have e1 := hide (digit_at ((s[k].toNat : Int) % 16) (s[k].toNat % 16) (by omega) (by omega) D1.out)
      go_wp2_with fail
      go_region_held3 (fun _ => True) (trivial)
        ((refine step_append_lies _ (by rfl) _ _ _ (by rfl) w.heap.size 5 i0 _ 1 1 Try.underlying49 hi hz0 hz1 hz2 rfl (by omega) _ acc.length (cs acc) (by rfl) ((World.ownsRow.alloc hown _).drew) ⟨wr.heap.size, 0, none⟩ 2 2 [.int .u8 (((⟨#[48, 49, 50, 51, 52, 53, 54, 55, 56, 57, 97, 98, 99, 100, 101, 102]⟩ : ByteArray)[((s[k].toNat : Int) / 16).toNat]'D0.out).toNat), .int .u8 (((⟨#[48, 49, 50, 51, 52, 53, 54, 55, 56, 57, 97, 98, 99, 100, 101, 102]⟩ : ByteArray)[((s[k].toNat : Int) % 16).toNat]'D1.out).toNat)] (by rfl) (by rfl) (World.news_of_block (cs := #[_, _]) (t := 5) (fr := (0, 0)) (heap_alloc_new wr _)) (two_one _ _ _) (by omega) (by unfold maxLen; omega) (by omega) (by have := hbel.size; simp; omega) (wr.heap.size + 1) (by simp) ?_; intro gg cap w3 hown3 hg3 hat hlt3))
      all_goals
        have P1 := push_two e0.out e1.out hown3
        have P2 := push_below_drew hbel (Nat.le_refl _) hown hg3
        rw [← g0.out, ← hT.out] at P1
        clear hown3 hg3 hat hlt3 hown hbel e0 e1 D0 D1 hT HA g0
        go_wp2
        go_roundw
        case rel => exact ⟨k + 1, by omega, int_eq (by omega), P1, P2⟩
        case measure => simp [intOf]; omega
    · have HS := hown.str
      rw [List.take_of_length_le (by rw [hsl.out]; omega)] at HS
      go_wp2
      go_ret
      exact ⟨rfl, hbel⟩
end Go.Proofs.Ytdgjdfpblenogaa
