/-
  WireReads answers true: the walk.
-/
import Derived.Test.YtdgjdfpblenogaaBoth
import Derived.Test.YtdgjdfpblenogaaWorks
import Derived.Test.YtdgjdfpblenogaaKnown
import Derived.Deep.DeepCutAuto
namespace Go.Proofs.Ytdgjdfpblenogaa
open Go.RowKit

/-- what is known of a slice of asks that came in -/
structure Asks (w : World) (a : Option Addr) (len : Nat) (K N : Nat → Int) : Prop where
  most : len ≤ 9223372036854775807
  fits : ∀ i, i < len → (-9223372036854775808 ≤ K i ∧ K i < 9223372036854775808) ∧ (-9223372036854775808 ≤ N i ∧ N i < 9223372036854775808)
  lies : 0 < len → ∃ b off, a = some ⟨b, off, none⟩ ∧ ∀ i, i < len → w.cell? ⟨b, off + i * 2, none⟩ = some (.int .i64 (K i)) ∧ w.cell? ⟨b, off + i * 2 + 1, none⟩ = some (.int .i64 (N i))

set_option maxRecDepth 100000 in
set_option maxHeartbeats 4000000 in
theorem reads_true (s : ByteArray) (a0 : Option Addr) (len0 cap0 : Nat) (K N : Nat → Int) (w : World) (hs : s.size ≤ 9223372036854775807) (h0 : Asks w a0 len0 K N) :
    Calls Try.prog 4 #[.string s, .slice a0 len0 cap0] w fun e w' => e = .returned (.bool true) ∧ Below w.heap.size w w' := by
  obtain ⟨m0, e0, l0⟩ := h0
  have HE := hide e0
  have HL := hide l0
  clear e0 l0
  go_enter Try.func4, Try.ntmps4
  go_upto_region 1 with fail
  go_cut [0] (fun s0 wx => wx = w ∧ ∃ bc : ByteArray, s0 = .string bc ∧ bc.size ≤ 5000)
  case first =>
    by_cases yb : (s.size : Int) ≤ 5000
    · go_wp2_with fail
      go_meet
      case rel => exact ⟨rfl, s, rfl, by omega⟩
    · go_wp2_with fail
      go_meet
      case rel => exact ⟨rfl, _, rfl, by rw [ByteArray.size_extract]; omega⟩
  case rest =>
    obtain ⟨rfl, bc, rfl, hbc⟩ := hcut
    clear hs
    have C1 := hide (New_any wc bc (by omega))
    go_wp2_with fail
    refine C1.out.mono ?_
    rintro e w1 ⟨rfl, ⟨cap, hr⟩, hb1, hz1⟩
    have C2 := hide (rNew_any w1 bc)
    have HZ := hide hz1
    have hz : wc.heap.size + 1 < w1.heap.size := by omega
    clear hz1 C1
    go_wp2_with fail
    refine C2.out.mono ?_
    rintro e w2 ⟨rfl, rfl⟩
    have HP : Hid (PR (w1.alloc (.cells #[.string bc] 57)) (wc.heap.size + 1) wc.heap.size bc.data.toList) := ⟨0, cap, Rd.alloc hr hz (by omega) _⟩
    have HQ : Hid (QR (w1.alloc (.cells #[.string bc] 57)) w1.heap.size bc.data.toList) := ⟨bc, by rw [World.cell?_alloc_at _ _ _ _ rfl]; rfl, by rw [World.frozen?_alloc_at _ _ _ _ rfl], rfl⟩
    have Bf : Below wc.heap.size wc (w1.alloc (.cells #[.string bc] 57)) := hb1.alloc (by omega) _
    have hsz : w1.heap.size < (w1.alloc (.cells #[.string bc] 57)).heap.size := by simp
    clear C2 hb1 hr
    go_wp2_with fail
    go_loopw [7] (fun i wr => ∃ k : Nat, k ≤ 60 ∧ i = .int .i64 k ∧ (∃ bs, Hid (PR wr (wc.heap.size + 1) wc.heap.size bs) ∧ Hid (QR wr w1.heap.size bs)) ∧ Below wc.heap.size wc wr ∧ w1.heap.size < wr.heap.size) (fun i _ => 60 - (intOf i).toNat)
    case atStart => exact ⟨0, Nat.zero_le _, rfl, ⟨_, HP, HQ⟩, Bf, hsz⟩
    case round =>
      clear HP HQ Bf hsz
      obtain ⟨k, hk, rfl, ⟨bs, HP, HQ⟩, hb, hsz⟩ := hrel
      by_cases hlt : k < len0
      · by_cases h60 : k < 60
        · obtain ⟨b, off, rfl, hc⟩ := HL.out (by omega)
          obtain ⟨c0, c1⟩ := hc k (by omega)
          have hbw := World.block_lt_of_cell? _ _ c0
          have c0 := (hb.cell (p := ⟨b, off + k * 2, none⟩) hbw).trans c0
          have c1 := (hb.cell (p := ⟨b, off + k * 2 + 1, none⟩) hbw).trans c1
          obtain ⟨⟨f0, f1⟩, f2, f3⟩ := HE.out k (by omega)
          have k0 : (0 : Int) ≤ (k : Int) := by omega
          have k1 : (k : Int) < (len0 : Int) := by omega
          clear hc HL HE
          generalize K k = Kk at *
          generalize N k = Nk at *
          have few := HP.out.few
          by_cases w0 : (Kk == 0) = true
          · have HP3 := HP.out.kept (Below.heap_alloc wr (.cells #[.int .i64 Kk, .int .i64 Nk] 38) _ (by omega)) (Below.heap_alloc wr (.cells #[.int .i64 Kk, .int .i64 Nk] 38) _ (by omega))
            have HQ3 := HQ.out.kept (Below.heap_alloc wr (.cells #[.int .i64 Kk, .int .i64 Nk] 38) _ hsz)
            have A1 := hide (Number_all (wr.alloc (.cells #[.int .i64 Kk, .int .i64 Nk] 38)) _ _ Nk bs HP3 (by omega))
            clear HP3
            go_wp2_with fail
            refine A1.out.mono ?_
            rintro e w4 ⟨rfl, hp4, hon4⟩
            have cx : w4.cell? ⟨wr.heap.size, 1, none⟩ = some (.int .i64 Nk) := (hon4.cell (p := ⟨wr.heap.size, 1, none⟩) (by show wr.heap.size ≠ _; omega)).trans (by rw [World.cell?_alloc_at _ _ _ _ rfl]; rfl)
            have A2 := hide (rNumber_all w4 _ Nk bs (HQ3.kept (hon4.block _ (by omega))))
            generalize numR bs Nk = R at *
            obtain ⟨v, ok, bs'⟩ := R
            clear A1 HQ3
            go_wp2_with fail
            refine A2.out.mono ?_
            rintro e w5 ⟨rfl, hq5, hon5⟩
            have hp5 := hp4.kept (hon5.block _ (by omega)) (hon5.block _ (by omega))
            have L1 := hide (Left_all w5 _ _ _ hp5)
            have L2 := hide (rLeft_all w5 _ _ hq5)
            have Bf := ((hb.alloc hb.size (.cells #[.int .i64 Kk, .int .i64 Nk] 38)).trans (hon4.below (by omega))).trans (hon5.below (by omega))
            have hsz5 : w1.heap.size < w5.heap.size := by rw [hon5.size, hon4.size]; simp; omega
            have HP5 := hide hp5
            have HQ5 := hide hq5
            clear A2 HP HQ hb hon4 hon5 hp4 hp5 hq5 c0 c1 cx
            go_wp2_with fail
            refine L1.out.mono ?_
            rintro e w6 ⟨rfl, rfl⟩
            go_wp2_with fail
            refine L2.out.mono ?_
            rintro e w6 ⟨rfl, rfl⟩
            clear L1 L2
            go_wp2
            go_roundw
            case rel => exact ⟨k + 1, by omega, by go_num, ⟨bs', HP5, HQ5⟩, Bf, hsz5⟩
            case measure => simp [intOf]; omega
          · have w0' : (Kk == 0) = false := by simpa using w0
            clear w0
            by_cases w1' : (Kk == 1) = true
            · have HP3 := HP.out.kept (Below.heap_alloc wr (.cells #[.int .i64 Kk, .int .i64 Nk] 38) _ (by omega)) (Below.heap_alloc wr (.cells #[.int .i64 Kk, .int .i64 Nk] 38) _ (by omega))
              have HQ3 := HQ.out.kept (Below.heap_alloc wr (.cells #[.int .i64 Kk, .int .i64 Nk] 38) _ hsz)
              have A1 := hide (Text_all (wr.alloc (.cells #[.int .i64 Kk, .int .i64 Nk] 38)) _ _ Nk bs HP3 (by omega) f2 f3)
              clear HP3
              go_wp2_with fail
              refine A1.out.mono ?_
              rintro e w4 ⟨rfl, hp4, hon4⟩
              have cx : w4.cell? ⟨wr.heap.size, 1, none⟩ = some (.int .i64 Nk) := (hon4.cell (p := ⟨wr.heap.size, 1, none⟩) (by show wr.heap.size ≠ _; omega)).trans (by rw [World.cell?_alloc_at _ _ _ _ rfl]; rfl)
              have A2 := hide (rText_all w4 _ Nk bs (HQ3.kept (hon4.block _ (by omega))) few f2 f3)
              generalize txtR bs Nk = R at *
              obtain ⟨v, ok, bs'⟩ := R
              clear A1 HQ3
              go_wp2_with fail
              refine A2.out.mono ?_
              rintro e w5 ⟨rfl, hq5, hon5⟩
              have hp5 := hp4.kept (hon5.block _ (by omega)) (hon5.block _ (by omega))
              have L1 := hide (Left_all w5 _ _ _ hp5)
              have L2 := hide (rLeft_all w5 _ _ hq5)
              have Bf := ((hb.alloc hb.size (.cells #[.int .i64 Kk, .int .i64 Nk] 38)).trans (hon4.below (by omega))).trans (hon5.below (by omega))
              have hsz5 : w1.heap.size < w5.heap.size := by rw [hon5.size, hon4.size]; simp; omega
              have HP5 := hide hp5
              have HQ5 := hide hq5
              clear A2 HP HQ hb hon4 hon5 hp4 hp5 hq5 c0 c1 cx
              go_wp2_with fail
              refine L1.out.mono ?_
              rintro e w6 ⟨rfl, rfl⟩
              go_wp2_with fail
              refine L2.out.mono ?_
              rintro e w6 ⟨rfl, rfl⟩
              clear L1 L2
              go_wp2
              go_roundw
              case rel => exact ⟨k + 1, by omega, by go_num, ⟨bs', HP5, HQ5⟩, Bf, hsz5⟩
              case measure => simp [intOf]; omega
            · have w2' : (Kk == 1) = false := by simpa using w1'
              clear w1'
              have HP3 := HP.out.kept (Below.heap_alloc wr (.cells #[.int .i64 Kk, .int .i64 Nk] 38) _ (by omega)) (Below.heap_alloc wr (.cells #[.int .i64 Kk, .int .i64 Nk] 38) _ (by omega))
              have HQ3 := HQ.out.kept (Below.heap_alloc wr (.cells #[.int .i64 Kk, .int .i64 Nk] 38) _ hsz)
              have A1 := hide (Take_all (wr.alloc (.cells #[.int .i64 Kk, .int .i64 Nk] 38)) _ _ Nk bs HP3 (by omega))
              clear HP3
              go_wp2_with fail
              refine A1.out.mono ?_
              rintro e w4 ⟨rfl, hp4, hon4⟩
              have cx : w4.cell? ⟨wr.heap.size, 1, none⟩ = some (.int .i64 Nk) := (hon4.cell (p := ⟨wr.heap.size, 1, none⟩) (by show wr.heap.size ≠ _; omega)).trans (by rw [World.cell?_alloc_at _ _ _ _ rfl]; rfl)
              have A2 := hide (rTake_all w4 _ Nk bs (HQ3.kept (hon4.block _ (by omega))))
              generalize takR bs Nk = R at *
              obtain ⟨v, ok, bs'⟩ := R
              clear A1 HQ3
              go_wp2_with fail
              refine A2.out.mono ?_
              rintro e w5 ⟨rfl, hq5, hon5⟩
              have hp5 := hp4.kept (hon5.block _ (by omega)) (hon5.block _ (by omega))
              have L1 := hide (Left_all w5 _ _ _ hp5)
              have L2 := hide (rLeft_all w5 _ _ hq5)
              have Bf := ((hb.alloc hb.size (.cells #[.int .i64 Kk, .int .i64 Nk] 38)).trans (hon4.below (by omega))).trans (hon5.below (by omega))
              have hsz5 : w1.heap.size < w5.heap.size := by rw [hon5.size, hon4.size]; simp; omega
              have HP5 := hide hp5
              have HQ5 := hide hq5
              clear A2 HP HQ hb hon4 hon5 hp4 hp5 hq5 c0 c1 cx
              go_wp2_with fail
              refine L1.out.mono ?_
              rintro e w6 ⟨rfl, rfl⟩
              go_wp2_with fail
              refine L2.out.mono ?_
              rintro e w6 ⟨rfl, rfl⟩
              clear L1 L2
              go_wp2
              go_roundw
              case rel => exact ⟨k + 1, by omega, by go_num, ⟨bs', HP5, HQ5⟩, Bf, hsz5⟩
              case measure => simp [intOf]; omega
        · have C := hide (works_true wr)
          have h60' : k = 60 := by omega
          subst h60'
          clear HP HQ HL HE
          go_wp2_with fail
          refine C.out.mono ?_
          rintro e w4 ⟨rfl, hb4⟩
          have Bf := bstep hb hb4
          clear C hb hb4
          go_wp2
          go_ret
          exact ⟨rfl, Bf⟩
      · have C := hide (works_true wr)
        clear HP HQ HL HE
        go_wp2_with fail
        refine C.out.mono ?_
        rintro e w4 ⟨rfl, hb4⟩
        have Bf := bstep hb hb4
        clear C hb hb4
        go_wp2
        go_ret
        exact ⟨rfl, Bf⟩
end Go.Proofs.Ytdgjdfpblenogaa
