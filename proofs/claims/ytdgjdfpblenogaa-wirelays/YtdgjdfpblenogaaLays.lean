/-
  WireLays answers true: the walk.
-/
import Derived.Test.YtdgjdfpblenogaaRefHex
import Derived.Test.YtdgjdfpblenogaaWorks
import Derived.Deep.RegionHeld3
import Derived.Deep.DeepCutAuto
namespace Go.Proofs.Ytdgjdfpblenogaa
open Go.RowKit

theorem keepS {w wq w2 : World} {b : Nat} {v : Value} (hb : Below wq.heap.size wq w2) (h : wq.cell? ⟨b, 1, none⟩ = some v ∧ (w.heap.size ≤ b ∧ b < wq.heap.size) ∧ Below w.heap.size w wq) :
    w2.cell? ⟨b, 1, none⟩ = some v ∧ (w.heap.size ≤ b ∧ b < w2.heap.size) ∧ Below w.heap.size w w2 :=
  ⟨(hb.cell (p := ⟨b, 1, none⟩) h.2.1.2).trans h.1, ⟨h.2.1.1, Nat.lt_of_lt_of_le h.2.1.2 hb.size⟩, bstep h.2.2 hb⟩

theorem keepD {w wq : World} {b : Nat} {v : Value} (h : wq.cell? ⟨b, 1, none⟩ = some v ∧ (w.heap.size ≤ b ∧ b < wq.heap.size) ∧ Below w.heap.size w wq) :
    wq.drew.cell? ⟨b, 1, none⟩ = some v ∧ (w.heap.size ≤ b ∧ b < wq.drew.heap.size) ∧ Below w.heap.size w wq.drew := ⟨h.1, h.2.1, h.2.2.drew⟩

theorem unhex_pair (s : ByteArray) (hs : s.size ≤ 5000) : ∃ (r : List UInt8) (ok : Bool),
    (∀ w, Calls Try.prog 8 #[.string s] w fun e w' => e = .returned (.tuple #[.string ⟨r.toArray⟩, .bool ok]) ∧ Below w.heap.size w w') ∧
    (∀ w, Calls Try.prog 9 #[.string s] w fun e w' => e = .returned (.tuple #[.string ⟨r.toArray⟩, .bool ok]) ∧ Below w.heap.size w w') := by
  rcases hu : unhex s.data.toList with _ | r
  · refine ⟨[], false, fun w => ?_, fun w => ?_⟩
    · have := Unhex_any w s (by omega)
      rw [hu] at this
      exact this
    · have := RUnhex_any w s (by omega)
      rw [hu] at this
      exact this
  · refine ⟨r, true, fun w => ?_, fun w => ?_⟩
    · have := Unhex_any w s (by omega)
      rw [hu] at this
      exact this
    · have := RUnhex_any w s (by omega)
      rw [hu] at this
      exact this

set_option maxRecDepth 100000 in
set_option maxHeartbeats 8000000 in
theorem lays_true (s : ByteArray) (bytes : Int) (B N : Nat) (x : ByteArray) (w : World) (hs : s.size ≤ 9223372036854775807) (hx : x.size ≤ 9223372036854775807) :
    Calls Try.prog 3 #[.string s, .int .i64 bytes, .agg #[.int .u8 B, .int .u64 N, .string x]] w fun e w' => e = .returned (.bool true) ∧ Below w.heap.size w w' := by
  go_enter Try.func3, Try.ntmps3
  go_upto_region 1 with fail
  go_cut [0] (fun s0 wx => wx = w.alloc (.cells #[.int .u8 B, .int .u64 N, .string x] 24) ∧ ∃ bc : ByteArray, s0 = .string bc ∧ bc.size ≤ 5000)
  case first =>
    by_cases yb : (s.size : Int) ≤ 5000
    · go_wp2_with fail
      go_meet
      case rel => exact ⟨rfl, s, rfl, by omega⟩
    · go_wp2_with fail
      go_meet
      case rel => exact ⟨rfl, _, rfl, by rw [ByteArray.size_extract]; omega⟩
  case rest =>
    obtain ⟨rfl, bc, rfl, hbc⟩ := hcut
    clear hs
    go_upto_region 2 with fail
    go_cut [7] (fun s7 wx => wx = w.alloc (.cells #[.int .u8 B, .int .u64 N, .string x] 24) ∧ ∃ xc : ByteArray, s7 = .string xc ∧ xc.size ≤ 5000)
    case first =>
      by_cases yb : (x.size : Int) ≤ 5000
      · go_wp2_with fail
        go_meet
        case rel => exact ⟨rfl, x, rfl, by omega⟩
      · go_wp2_with fail
        go_meet
        case rel => exact ⟨rfl, _, rfl, by rw [ByteArray.size_extract]; omega⟩
    case rest =>
      obtain ⟨rfl, xc, rfl, hxc⟩ := hcut
      clear hx
      have S0 : (w.alloc (.cells #[.int .u8 B, .int .u64 N, .string x] 24)).cell? ⟨w.heap.size, 1, none⟩ = some (.int .u64 N) ∧ (w.heap.size ≤ w.heap.size ∧ w.heap.size < (w.alloc (.cells #[.int .u8 B, .int .u64 N, .string x] 24)).heap.size) ∧ Below w.heap.size w (w.alloc (.cells #[.int .u8 B, .int .u64 N, .string x] 24)) :=
        ⟨by rw [World.cell?_alloc_at _ _ _ _ rfl]; rfl, ⟨Nat.le_refl _, by simp⟩, (Below.refl _ _).alloc (Nat.le_refl _) _⟩
      obtain ⟨r, ok, U8, U9⟩ := unhex_pair xc hxc
      have H8 := hide U8
      have H9 := hide U9
      have HS := hide S0
      clear U8 U9 S0
      go_wp2_with fail
      refine (H8.out _).mono ?_
      rintro e w1 ⟨rfl, hb1⟩
      have HS1 := hide (keepS hb1 HS.out)
      go_wp2_with fail
      refine (H9.out _).mono ?_
      rintro e w2 ⟨rfl, hb2⟩
      obtain ⟨c1, c2, c3⟩ := keepS hb2 HS1.out
      clear H8 H9 HS HS1 hb1 hb2
      go_wp2_with fail
      go_region_held3 (fun w' => w'.cell? ⟨w.heap.size, 1, none⟩ = some (.int .u64 N) ∧ (w.heap.size ≤ w.heap.size ∧ w.heap.size < w'.heap.size) ∧ Below w.heap.size w w')
        (first | exact keepS hb (by assumption) | exact keepD (by assumption) | exact keepD ⟨c1, c2, c3⟩ | exact ⟨c1, c2, c3⟩)
        (first
          | (go_at_call 10; refine (PutNumber_any _ bc bytes N (by omega)).mono ?_; rintro e w3 ⟨rfl, hb⟩)
          | (go_at_call 11; refine (RPutNumber_any _ bc bytes N (by omega)).mono ?_; rintro e w3 ⟨rfl, hb⟩)
          | (go_at_call 12; refine (PutText_any _ bc xc (by omega) (by omega)).mono ?_; rintro e w3 ⟨rfl, hb⟩)
          | (go_at_call 13; refine (RPutText_any _ bc xc (by omega) (by omega)).mono ?_; rintro e w3 ⟨rfl, hb⟩)
          | (go_at_call 14; refine (Hex_any _ bc (by omega)).mono ?_; rintro e w3 ⟨rfl, hb⟩)
          | (go_at_call 15; refine (RHex_any _ bc (by omega)).mono ?_; rintro e w3 ⟨rfl, hb⟩)
          | (go_at_call 16; refine (works_true _).mono ?_; rintro e w3 ⟨rfl, hb⟩))
      obtain ⟨_, _, Bf⟩ : w3.cell? ⟨w.heap.size, 1, none⟩ = some (.int .u64 N) ∧ (w.heap.size ≤ w.heap.size ∧ w.heap.size < w3.heap.size) ∧ Below w.heap.size w w3 := by assumption
      go_wp2
      go_ret
      exact ⟨rfl, Bf⟩
end Go.Proofs.Ytdgjdfpblenogaa
