/-
  The chapter's examples: WireKnown answers true.
-/
import Derived.Test.YtdgjdfpblenogaaWorks
import Derived.Test.YtdgjdfpblenogaaHex
namespace Go.Proofs.Ytdgjdfpblenogaa
open Go.RowKit

theorem bstep {w a b : World} (h : Below w.heap.size w a) (k : Below a.heap.size a b) : Below w.heap.size w b := h.trans (k.mono h.size)
theorem bonly {w a b : World} {x : Nat} (h : Below w.heap.size w a) (k : Only x a b) (hx : w.heap.size ≤ x) : Below w.heap.size w b := h.trans (k.below hx)

theorem Rd.alloc {w : World} {b d o cap : Nat} {bs : List UInt8} (h : Rd w b d o cap bs) (hb : b < w.heap.size) (hd : d < w.heap.size) (x : Obj) : Rd (w.alloc x) b d o cap bs :=
  h.kept (Below.heap_alloc w x b hb) (Below.heap_alloc w x d hd)

set_option maxRecDepth 100000 in
set_option maxHeartbeats 4000000 in
theorem known_true (w : World) : Calls Try.prog 7 #[] w fun e w' => e = .returned (.bool true) ∧ Below w.heap.size w w' := by
  have B0 : Below w.heap.size w w := Below.refl _ _
  go_enter Try.func7, Try.ntmps7
  have C0 : Hid (Calls Try.prog 10 #[.string ⟨#[]⟩, .int .i64 2, .int .u64 258] w fun e w' => e = .returned (.string ⟨#[1, 2]⟩) ∧ Below w.heap.size w w') := put_mid w ⟨#[]⟩ 2 258 (by decide) (by decide) (by decide)
  go_wp2_with fail
  refine C0.out.mono ?_
  rintro e w1 ⟨rfl, hb⟩
  have B1 := bstep B0 hb
  clear C0 hb B0
  have C1 : Hid (Calls Try.prog 10 #[.string ⟨#[120]⟩, .int .i64 1, .int .u64 258] w1 fun e w' => e = .returned (.string ⟨#[120, 2]⟩) ∧ Below w1.heap.size w1 w') := put_mid w1 ⟨#[120]⟩ 1 258 (by decide) (by decide) (by decide)
  go_wp2_with fail
  refine C1.out.mono ?_
  rintro e w2 ⟨rfl, hb⟩
  have B2 := bstep B1 hb
  clear C1 hb B1
  have C2 : Hid (Calls Try.prog 10 #[.string ⟨#[]⟩, .int .i64 8, .int .u64 18446744073709551615] w2 fun e w' => e = .returned (.string ⟨#[255, 255, 255, 255, 255, 255, 255, 255]⟩) ∧ Below w2.heap.size w2 w') := put_mid w2 ⟨#[]⟩ 8 18446744073709551615 (by decide) (by decide) (by decide)
  go_wp2_with fail
  refine C2.out.mono ?_
  rintro e w3 ⟨rfl, hb⟩
  have B3 := bstep B2 hb
  clear C2 hb B2
  have C3 : Hid (Calls Try.prog 10 #[.string ⟨#[]⟩, .int .i64 0, .int .u64 7] w3 fun e w' => e = .returned (.string ⟨#[7]⟩) ∧ Below w3.heap.size w3 w') := put_low w3 ⟨#[]⟩ 0 7 (by decide) (by decide)
  go_wp2_with fail
  refine C3.out.mono ?_
  rintro e w4 ⟨rfl, hb⟩
  have B4 := bstep B3 hb
  clear C3 hb B3
  have C4 : Hid (Calls Try.prog 10 #[.string ⟨#[]⟩, .int .i64 9, .int .u64 7] w4 fun e w' => e = .returned (.string ⟨#[0, 0, 0, 0, 0, 0, 0, 7]⟩) ∧ Below w4.heap.size w4 w') := put_high w4 ⟨#[]⟩ 9 7 (by decide) (by decide)
  go_wp2_with fail
  refine C4.out.mono ?_
  rintro e w5 ⟨rfl, hb⟩
  have B5 := bstep B4 hb
  clear C4 hb B4
  have C5 : Hid (Calls Try.prog 10 #[.string ⟨#[]⟩, .int .i64 (-9223372036854775808), .int .u64 7] w5 fun e w' => e = .returned (.string ⟨#[7]⟩) ∧ Below w5.heap.size w5 w') := put_low w5 ⟨#[]⟩ (-9223372036854775808) 7 (by decide) (by decide)
  go_wp2_with fail
  refine C5.out.mono ?_
  rintro e w6 ⟨rfl, hb⟩
  have B6 := bstep B5 hb
  clear C5 hb B5
  have C6 : Hid (Calls Try.prog 12 #[.string ⟨#[120]⟩, .string ⟨#[]⟩] w6 fun e w' => e = .returned (.string ⟨#[120, 0, 0, 0, 0]⟩) ∧ Below w6.heap.size w6 w') := PutText_any w6 ⟨#[120]⟩ ⟨#[]⟩ (by decide) (by decide)
  go_wp2_with fail
  refine C6.out.mono ?_
  rintro e w7 ⟨rfl, hb⟩
  have B7 := bstep B6 hb
  clear C6 hb B6
  go_wp2_with fail
  have Bq : Below w.heap.size w (w7.alloc (.cells #[.string ⟨#[0, 0, 0, 2, 97, 98]⟩, .string ⟨#[0, 0, 0, 2, 97, 98]⟩, .string ⟨#[0, 0, 0, 0]⟩, .string ⟨#[0, 0, 0, 3, 97]⟩, .string ⟨#[0, 0, 0]⟩, .string ⟨#[255, 255, 255, 255, 0]⟩] 9)) := B7.alloc B7.size _
  have s7 := B7.size
  clear B7
  go_loopw [57] (fun i wr => ∃ k : Nat, k ≤ 6 ∧ i = .int .i64 k ∧ Below w.heap.size w wr ∧ w7.heap.size < wr.heap.size ∧ Hid (wr.heap[w7.heap.size]? = some (.cells #[.string ⟨#[0, 0, 0, 2, 97, 98]⟩, .string ⟨#[0, 0, 0, 2, 97, 98]⟩, .string ⟨#[0, 0, 0, 0]⟩, .string ⟨#[0, 0, 0, 3, 97]⟩, .string ⟨#[0, 0, 0]⟩, .string ⟨#[255, 255, 255, 255, 0]⟩] 9))) (fun i _ => 6 - (intOf i).toNat)
  case atStart => exact ⟨0, by decide, rfl, Bq, by simp, heap_alloc_new w7 _⟩
  case round =>
    clear Bq
    obtain ⟨k, hk, rfl, Bk, hsz, hblk⟩ := hrel
    by_cases hlt : k < 6
    · rcases (show k = 0 ∨ k = 1 ∨ k = 2 ∨ k = 3 ∨ k = 4 ∨ k = 5 by omega) with rfl | rfl | rfl | rfl | rfl | rfl
      · have hc : wr.cell? ⟨w7.heap.size, 0, none⟩ = some (.string ⟨#[0, 0, 0, 2, 97, 98]⟩) := by rw [cell_of_row wr _ 0 _ _ _ hblk.out]; rfl
        have N := hide (New_any wr ⟨#[0, 0, 0, 2, 97, 98]⟩ (by decide))
        go_wp2_with fail
        refine N.out.mono ?_
        rintro e w8 ⟨rfl, ⟨cap, hr⟩, hb8, hz8⟩
        have HZ := hide hz8
        have hz : wr.heap.size + 1 < w8.heap.size := by omega
        clear hz8 N
        have hr2 : Rd (w8.alloc (.cells #[.int .i64 2, .int .i64 1, .int .i64 (-1), .int .i64 5, .int .i64 5, .int .i64 4611686018427387904] 3)) (wr.heap.size + 1) wr.heap.size 0 cap [0, 0, 0, 2, 97, 98] := Rd.alloc hr hz (by omega) _
        have T : Hid (Calls Try.prog 21 #[.pointer (some ⟨wr.heap.size + 1, 0, none⟩), .int .i64 2] (w8.alloc (.cells #[.int .i64 2, .int .i64 1, .int .i64 (-1), .int .i64 5, .int .i64 5, .int .i64 4611686018427387904] 3)) fun e w' =>
            e = .returned (.tuple #[.string ⟨#[97, 98]⟩, .bool true]) ∧ (∃ o' cap', Rd w' (wr.heap.size + 1) wr.heap.size o' cap' []) ∧ Only (wr.heap.size + 1) (w8.alloc (.cells #[.int .i64 2, .int .i64 1, .int .i64 (-1), .int .i64 5, .int .i64 5, .int .i64 4611686018427387904] 3)) w') := Text_yes _ _ _ _ _ 2 _ hr2 (by omega) (by decide) (by decide) (by decide) (by decide)
        clear hr hr2
        go_wp2_with fail
        refine T.out.mono ?_
        rintro e w9 ⟨rfl, _, hon⟩
        have Bf : Below w.heap.size w w9 := (((bstep Bk hb8).alloc (by have := Bk.size; omega) _).trans (hon.below (by have := Bk.size; omega)))
        have hblk' : Hid (w9.heap[w7.heap.size]? = _) := (hon.block _ (by omega)).trans ((Below.heap_alloc w8 _ _ (by omega)).trans ((hb8.block _ hsz).trans hblk.out))
        have hsz' : w7.heap.size < w9.heap.size := by have := hon.size; simp at this; omega
        clear T hon hblk hb8 Bk hc
        go_wp2
        go_roundw
        case rel => exact ⟨1, by decide, rfl, Bf, hsz', hblk'⟩
        case measure => simp [intOf]
      · have hc : wr.cell? ⟨w7.heap.size, 1, none⟩ = some (.string ⟨#[0, 0, 0, 2, 97, 98]⟩) := by rw [cell_of_row wr _ 1 _ _ _ hblk.out]; rfl
        have N := hide (New_any wr ⟨#[0, 0, 0, 2, 97, 98]⟩ (by decide))
        go_wp2_with fail
        refine N.out.mono ?_
        rintro e w8 ⟨rfl, ⟨cap, hr⟩, hb8, hz8⟩
        have HZ := hide hz8
        have hz : wr.heap.size + 1 < w8.heap.size := by omega
        clear hz8 N
        have hr2 : Rd (w8.alloc (.cells #[.int .i64 2, .int .i64 1, .int .i64 (-1), .int .i64 5, .int .i64 5, .int .i64 4611686018427387904] 3)) (wr.heap.size + 1) wr.heap.size 0 cap [0, 0, 0, 2, 97, 98] := Rd.alloc hr hz (by omega) _
        have T : Hid (Calls Try.prog 21 #[.pointer (some ⟨wr.heap.size + 1, 0, none⟩), .int .i64 1] (w8.alloc (.cells #[.int .i64 2, .int .i64 1, .int .i64 (-1), .int .i64 5, .int .i64 5, .int .i64 4611686018427387904] 3)) fun e w' =>
            e = .returned (.tuple #[.string ⟨#[]⟩, .bool false]) ∧ w' = w8.alloc (.cells #[.int .i64 2, .int .i64 1, .int .i64 (-1), .int .i64 5, .int .i64 5, .int .i64 4611686018427387904] 3)) := Text_no _ _ _ _ _ 1 _ hr2 (by decide) (by decide) (.inr (.inr (.inl (by decide))))
        have Lf : Hid (Calls Try.prog 25 #[.pointer (some ⟨wr.heap.size + 1, 0, none⟩)] (w8.alloc (.cells #[.int .i64 2, .int .i64 1, .int .i64 (-1), .int .i64 5, .int .i64 5, .int .i64 4611686018427387904] 3)) fun e w' => e = .returned (.int .i64 6) ∧ w' = w8.alloc (.cells #[.int .i64 2, .int .i64 1, .int .i64 (-1), .int .i64 5, .int .i64 5, .int .i64 4611686018427387904] 3)) := Left_rd _ _ _ _ _ _ hr2
        clear hr hr2
        go_wp2_with fail
        refine T.out.mono ?_
        rintro e w9 ⟨rfl, rfl⟩
        go_wp2_with fail
        refine Lf.out.mono ?_
        rintro e w9 ⟨rfl, rfl⟩
        have Bf : Below w.heap.size w (w8.alloc (.cells #[.int .i64 2, .int .i64 1, .int .i64 (-1), .int .i64 5, .int .i64 5, .int .i64 4611686018427387904] 3)) := (bstep Bk hb8).alloc (by have := Bk.size; omega) _
        have hblk' : Hid ((w8.alloc (.cells #[.int .i64 2, .int .i64 1, .int .i64 (-1), .int .i64 5, .int .i64 5, .int .i64 4611686018427387904] 3)).heap[w7.heap.size]? = _) := (Below.heap_alloc w8 _ _ (by omega)).trans ((hb8.block _ hsz).trans hblk.out)
        have hsz' : w7.heap.size < (w8.alloc (.cells #[.int .i64 2, .int .i64 1, .int .i64 (-1), .int .i64 5, .int .i64 5, .int .i64 4611686018427387904] 3)).heap.size := by simp; omega
        clear T Lf hblk hb8 Bk hc
        go_wp2
        go_roundw
        case rel => exact ⟨2, by decide, rfl, Bf, hsz', hblk'⟩
        case measure => simp [intOf]
      · have hc : wr.cell? ⟨w7.heap.size, 2, none⟩ = some (.string ⟨#[0, 0, 0, 0]⟩) := by rw [cell_of_row wr _ 2 _ _ _ hblk.out]; rfl
        have N := hide (New_any wr ⟨#[0, 0, 0, 0]⟩ (by decide))
        go_wp2_with fail
        refine N.out.mono ?_
        rintro e w8 ⟨rfl, ⟨cap, hr⟩, hb8, hz8⟩
        have HZ := hide hz8
        have hz : wr.heap.size + 1 < w8.heap.size := by omega
        clear hz8 N
        have hr2 : Rd (w8.alloc (.cells #[.int .i64 2, .int .i64 1, .int .i64 (-1), .int .i64 5, .int .i64 5, .int .i64 4611686018427387904] 3)) (wr.heap.size + 1) wr.heap.size 0 cap [0, 0, 0, 0] := Rd.alloc hr hz (by omega) _
        have T : Hid (Calls Try.prog 21 #[.pointer (some ⟨wr.heap.size + 1, 0, none⟩), .int .i64 (-1)] (w8.alloc (.cells #[.int .i64 2, .int .i64 1, .int .i64 (-1), .int .i64 5, .int .i64 5, .int .i64 4611686018427387904] 3)) fun e w' =>
            e = .returned (.tuple #[.string ⟨#[]⟩, .bool false]) ∧ w' = w8.alloc (.cells #[.int .i64 2, .int .i64 1, .int .i64 (-1), .int .i64 5, .int .i64 5, .int .i64 4611686018427387904] 3)) := Text_no _ _ _ _ _ (-1) _ hr2 (by decide) (by decide) (.inr (.inl (by decide)))
        have Lf : Hid (Calls Try.prog 25 #[.pointer (some ⟨wr.heap.size + 1, 0, none⟩)] (w8.alloc (.cells #[.int .i64 2, .int .i64 1, .int .i64 (-1), .int .i64 5, .int .i64 5, .int .i64 4611686018427387904] 3)) fun e w' => e = .returned (.int .i64 4) ∧ w' = w8.alloc (.cells #[.int .i64 2, .int .i64 1, .int .i64 (-1), .int .i64 5, .int .i64 5, .int .i64 4611686018427387904] 3)) := Left_rd _ _ _ _ _ _ hr2
        clear hr hr2
        go_wp2_with fail
        refine T.out.mono ?_
        rintro e w9 ⟨rfl, rfl⟩
        go_wp2_with fail
        refine Lf.out.mono ?_
        rintro e w9 ⟨rfl, rfl⟩
        have Bf : Below w.heap.size w (w8.alloc (.cells #[.int .i64 2, .int .i64 1, .int .i64 (-1), .int .i64 5, .int .i64 5, .int .i64 4611686018427387904] 3)) := (bstep Bk hb8).alloc (by have := Bk.size; omega) _
        have hblk' : Hid ((w8.alloc (.cells #[.int .i64 2, .int .i64 1, .int .i64 (-1), .int .i64 5, .int .i64 5, .int .i64 4611686018427387904] 3)).heap[w7.heap.size]? = _) := (Below.heap_alloc w8 _ _ (by omega)).trans ((hb8.block _ hsz).trans hblk.out)
        have hsz' : w7.heap.size < (w8.alloc (.cells #[.int .i64 2, .int .i64 1, .int .i64 (-1), .int .i64 5, .int .i64 5, .int .i64 4611686018427387904] 3)).heap.size := by simp; omega
        clear T Lf hblk hb8 Bk hc
        go_wp2
        go_roundw
        case rel => exact ⟨3, by decide, rfl, Bf, hsz', hblk'⟩
        case measure => simp [intOf]
      · have hc : wr.cell? ⟨w7.heap.size, 3, none⟩ = some (.string ⟨#[0, 0, 0, 3, 97]⟩) := by rw [cell_of_row wr _ 3 _ _ _ hblk.out]; rfl
        have N := hide (New_any wr ⟨#[0, 0, 0, 3, 97]⟩ (by decide))
        go_wp2_with fail
        refine N.out.mono ?_
        rintro e w8 ⟨rfl, ⟨cap, hr⟩, hb8, hz8⟩
        have HZ := hide hz8
        have hz : wr.heap.size + 1 < w8.heap.size := by omega
        clear hz8 N
        have hr2 : Rd (w8.alloc (.cells #[.int .i64 2, .int .i64 1, .int .i64 (-1), .int .i64 5, .int .i64 5, .int .i64 4611686018427387904] 3)) (wr.heap.size + 1) wr.heap.size 0 cap [0, 0, 0, 3, 97] := Rd.alloc hr hz (by omega) _
        have T : Hid (Calls Try.prog 21 #[.pointer (some ⟨wr.heap.size + 1, 0, none⟩), .int .i64 5] (w8.alloc (.cells #[.int .i64 2, .int .i64 1, .int .i64 (-1), .int .i64 5, .int .i64 5, .int .i64 4611686018427387904] 3)) fun e w' =>
            e = .returned (.tuple #[.string ⟨#[]⟩, .bool false]) ∧ w' = w8.alloc (.cells #[.int .i64 2, .int .i64 1, .int .i64 (-1), .int .i64 5, .int .i64 5, .int .i64 4611686018427387904] 3)) := Text_no _ _ _ _ _ 5 _ hr2 (by decide) (by decide) (.inr (.inr (.inr (by decide))))
        have Lf : Hid (Calls Try.prog 25 #[.pointer (some ⟨wr.heap.size + 1, 0, none⟩)] (w8.alloc (.cells #[.int .i64 2, .int .i64 1, .int .i64 (-1), .int .i64 5, .int .i64 5, .int .i64 4611686018427387904] 3)) fun e w' => e = .returned (.int .i64 5) ∧ w' = w8.alloc (.cells #[.int .i64 2, .int .i64 1, .int .i64 (-1), .int .i64 5, .int .i64 5, .int .i64 4611686018427387904] 3)) := Left_rd _ _ _ _ _ _ hr2
        clear hr hr2
        go_wp2_with fail
        refine T.out.mono ?_
        rintro e w9 ⟨rfl, rfl⟩
        go_wp2_with fail
        refine Lf.out.mono ?_
        rintro e w9 ⟨rfl, rfl⟩
        have Bf : Below w.heap.size w (w8.alloc (.cells #[.int .i64 2, .int .i64 1, .int .i64 (-1), .int .i64 5, .int .i64 5, .int .i64 4611686018427387904] 3)) := (bstep Bk hb8).alloc (by have := Bk.size; omega) _
        have hblk' : Hid ((w8.alloc (.cells #[.int .i64 2, .int .i64 1, .int .i64 (-1), .int .i64 5, .int .i64 5, .int .i64 4611686018427387904] 3)).heap[w7.heap.size]? = _) := (Below.heap_alloc w8 _ _ (by omega)).trans ((hb8.block _ hsz).trans hblk.out)
        have hsz' : w7.heap.size < (w8.alloc (.cells #[.int .i64 2, .int .i64 1, .int .i64 (-1), .int .i64 5, .int .i64 5, .int .i64 4611686018427387904] 3)).heap.size := by simp; omega
        clear T Lf hblk hb8 Bk hc
        go_wp2
        go_roundw
        case rel => exact ⟨4, by decide, rfl, Bf, hsz', hblk'⟩
        case measure => simp [intOf]
      · have hc : wr.cell? ⟨w7.heap.size, 4, none⟩ = some (.string ⟨#[0, 0, 0]⟩) := by rw [cell_of_row wr _ 4 _ _ _ hblk.out]; rfl
        have N := hide (New_any wr ⟨#[0, 0, 0]⟩ (by decide))
        go_wp2_with fail
        refine N.out.mono ?_
        rintro e w8 ⟨rfl, ⟨cap, hr⟩, hb8, hz8⟩
        have HZ := hide hz8
        have hz : wr.heap.size + 1 < w8.heap.size := by omega
        clear hz8 N
        have hr2 : Rd (w8.alloc (.cells #[.int .i64 2, .int .i64 1, .int .i64 (-1), .int .i64 5, .int .i64 5, .int .i64 4611686018427387904] 3)) (wr.heap.size + 1) wr.heap.size 0 cap [0, 0, 0] := Rd.alloc hr hz (by omega) _
        have T : Hid (Calls Try.prog 21 #[.pointer (some ⟨wr.heap.size + 1, 0, none⟩), .int .i64 5] (w8.alloc (.cells #[.int .i64 2, .int .i64 1, .int .i64 (-1), .int .i64 5, .int .i64 5, .int .i64 4611686018427387904] 3)) fun e w' =>
            e = .returned (.tuple #[.string ⟨#[]⟩, .bool false]) ∧ w' = w8.alloc (.cells #[.int .i64 2, .int .i64 1, .int .i64 (-1), .int .i64 5, .int .i64 5, .int .i64 4611686018427387904] 3)) := Text_no _ _ _ _ _ 5 _ hr2 (by decide) (by decide) (.inl (by decide))
        have Lf : Hid (Calls Try.prog 25 #[.pointer (some ⟨wr.heap.size + 1, 0, none⟩)] (w8.alloc (.cells #[.int .i64 2, .int .i64 1, .int .i64 (-1), .int .i64 5, .int .i64 5, .int .i64 4611686018427387904] 3)) fun e w' => e = .returned (.int .i64 3) ∧ w' = w8.alloc (.cells #[.int .i64 2, .int .i64 1, .int .i64 (-1), .int .i64 5, .int .i64 5, .int .i64 4611686018427387904] 3)) := Left_rd _ _ _ _ _ _ hr2
        clear hr hr2
        go_wp2_with fail
        refine T.out.mono ?_
        rintro e w9 ⟨rfl, rfl⟩
        go_wp2_with fail
        refine Lf.out.mono ?_
        rintro e w9 ⟨rfl, rfl⟩
        have Bf : Below w.heap.size w (w8.alloc (.cells #[.int .i64 2, .int .i64 1, .int .i64 (-1), .int .i64 5, .int .i64 5, .int .i64 4611686018427387904] 3)) := (bstep Bk hb8).alloc (by have := Bk.size; omega) _
        have hblk' : Hid ((w8.alloc (.cells #[.int .i64 2, .int .i64 1, .int .i64 (-1), .int .i64 5, .int .i64 5, .int .i64 4611686018427387904] 3)).heap[w7.heap.size]? = _) := (Below.heap_alloc w8 _ _ (by omega)).trans ((hb8.block _ hsz).trans hblk.out)
        have hsz' : w7.heap.size < (w8.alloc (.cells #[.int .i64 2, .int .i64 1, .int .i64 (-1), .int .i64 5, .int .i64 5, .int .i64 4611686018427387904] 3)).heap.size := by simp; omega
        clear T Lf hblk hb8 Bk hc
        go_wp2
        go_roundw
        case rel => exact ⟨5, by decide, rfl, Bf, hsz', hblk'⟩
        case measure => simp [intOf]
      · have hc : wr.cell? ⟨w7.heap.size, 5, none⟩ = some (.string ⟨#[255, 255, 255, 255, 0]⟩) := by rw [cell_of_row wr _ 5 _ _ _ hblk.out]; rfl
        have N := hide (New_any wr ⟨#[255, 255, 255, 255, 0]⟩ (by decide))
        go_wp2_with fail
        refine N.out.mono ?_
        rintro e w8 ⟨rfl, ⟨cap, hr⟩, hb8, hz8⟩
        have HZ := hide hz8
        have hz : wr.heap.size + 1 < w8.heap.size := by omega
        clear hz8 N
        have hr2 : Rd (w8.alloc (.cells #[.int .i64 2, .int .i64 1, .int .i64 (-1), .int .i64 5, .int .i64 5, .int .i64 4611686018427387904] 3)) (wr.heap.size + 1) wr.heap.size 0 cap [255, 255, 255, 255, 0] := Rd.alloc hr hz (by omega) _
        have T : Hid (Calls Try.prog 21 #[.pointer (some ⟨wr.heap.size + 1, 0, none⟩), .int .i64 4611686018427387904] (w8.alloc (.cells #[.int .i64 2, .int .i64 1, .int .i64 (-1), .int .i64 5, .int .i64 5, .int .i64 4611686018427387904] 3)) fun e w' =>
            e = .returned (.tuple #[.string ⟨#[]⟩, .bool false]) ∧ w' = w8.alloc (.cells #[.int .i64 2, .int .i64 1, .int .i64 (-1), .int .i64 5, .int .i64 5, .int .i64 4611686018427387904] 3)) := Text_no _ _ _ _ _ 4611686018427387904 _ hr2 (by decide) (by decide) (.inr (.inr (.inr (by decide))))
        have Lf : Hid (Calls Try.prog 25 #[.pointer (some ⟨wr.heap.size + 1, 0, none⟩)] (w8.alloc (.cells #[.int .i64 2, .int .i64 1, .int .i64 (-1), .int .i64 5, .int .i64 5, .int .i64 4611686018427387904] 3)) fun e w' => e = .returned (.int .i64 5) ∧ w' = w8.alloc (.cells #[.int .i64 2, .int .i64 1, .int .i64 (-1), .int .i64 5, .int .i64 5, .int .i64 4611686018427387904] 3)) := Left_rd _ _ _ _ _ _ hr2
        clear hr hr2
        go_wp2_with fail
        refine T.out.mono ?_
        rintro e w9 ⟨rfl, rfl⟩
        go_wp2_with fail
        refine Lf.out.mono ?_
        rintro e w9 ⟨rfl, rfl⟩
        have Bf : Below w.heap.size w (w8.alloc (.cells #[.int .i64 2, .int .i64 1, .int .i64 (-1), .int .i64 5, .int .i64 5, .int .i64 4611686018427387904] 3)) := (bstep Bk hb8).alloc (by have := Bk.size; omega) _
        have hblk' : Hid ((w8.alloc (.cells #[.int .i64 2, .int .i64 1, .int .i64 (-1), .int .i64 5, .int .i64 5, .int .i64 4611686018427387904] 3)).heap[w7.heap.size]? = _) := (Below.heap_alloc w8 _ _ (by omega)).trans ((hb8.block _ hsz).trans hblk.out)
        have hsz' : w7.heap.size < (w8.alloc (.cells #[.int .i64 2, .int .i64 1, .int .i64 (-1), .int .i64 5, .int .i64 5, .int .i64 4611686018427387904] 3)).heap.size := by simp; omega
        clear T Lf hblk hb8 Bk hc
        go_wp2
        go_roundw
        case rel => exact ⟨6, by decide, rfl, Bf, hsz', hblk'⟩
        case measure => simp [intOf]
    · obtain rfl : k = 6 := by omega
      clear hblk hsz hlt hk
      obtain ⟨V, hV⟩ : ∃ V, V = wr := ⟨_, rfl⟩
      subst hV
      go_wp2_with fail
      have Bq : Below w.heap.size w (V.alloc (.cells #[.int .i64 3, .int .i64 0, .int .i64 9, .int .i64 (-1)] 3)) := Bk.alloc Bk.size _
      have s8 := Bk.size
      clear Bk
      go_loopw [93] (fun i wr => ∃ k : Nat, k ≤ 4 ∧ i = .int .i64 k ∧ Below w.heap.size w wr ∧ V.heap.size < wr.heap.size ∧ Hid (wr.heap[V.heap.size]? = some (.cells #[.int .i64 3, .int .i64 0, .int .i64 9, .int .i64 (-1)] 3))) (fun i _ => 4 - (intOf i).toNat)
      case atStart => exact ⟨0, by decide, rfl, Bq, by simp, heap_alloc_new V _⟩
      case round =>
        clear Bq
        obtain ⟨k, hk, rfl, Bk, hsz, hblk⟩ := hrel
        by_cases hlt : k < 4
        · rcases (show k = 0 ∨ k = 1 ∨ k = 2 ∨ k = 3 by omega) with rfl | rfl | rfl | rfl
          · have hc : wr.cell? ⟨V.heap.size, 0, none⟩ = some (.int .i64 3) := by rw [cell_of_row wr _ 0 _ _ _ hblk.out]; rfl
            have N := hide (New_any wr ⟨#[1, 2]⟩ (by decide))
            go_wp2_with fail
            refine N.out.mono ?_
            rintro e w9 ⟨rfl, ⟨cap, hr⟩, hb8, hz8⟩
            have hr2 : Rd w9 (wr.heap.size + 1) wr.heap.size 0 cap [1, 2] := hr
            have HZ := hide hz8
            have hz : wr.heap.size + 1 < w9.heap.size := by omega
            clear hz8 N hr
            have T := hide (Number_no w9 _ _ _ _ 3 _ hr2 (.inr (.inr (by decide))))
            have Lf : Hid (Calls Try.prog 25 #[.pointer (some ⟨wr.heap.size + 1, 0, none⟩)] w9 fun e w' => e = .returned (.int .i64 2) ∧ w' = w9) := Left_rd _ _ _ _ _ _ hr2
            clear hr2
            go_wp2_with fail
            refine T.out.mono ?_
            rintro e w10 ⟨rfl, rfl⟩
            go_wp2_with fail
            refine Lf.out.mono ?_
            rintro e w11 ⟨rfl, rfl⟩
            have Bf := bstep Bk hb8
            have hblk' : Hid (_ = _) := (hb8.block _ hsz).trans hblk.out
            have hsz' := Nat.lt_of_lt_of_le hsz hb8.size
            clear T Lf hblk hb8 Bk hc
            go_wp2
            go_roundw
            case rel =>
              refine ⟨_, _, _, _, _, _, _, _, _, _, _, _, _, _, _, _, _, _, _, _, _, _, _, _, _, ?_, rfl⟩
              exact ⟨1, by decide, rfl, Bf, hsz', hblk'⟩
            case measure => simp [intOf]
          · have hc : wr.cell? ⟨V.heap.size, 1, none⟩ = some (.int .i64 0) := by rw [cell_of_row wr _ 1 _ _ _ hblk.out]; rfl
            have N := hide (New_any wr ⟨#[1, 2]⟩ (by decide))
            go_wp2_with fail
            refine N.out.mono ?_
            rintro e w9 ⟨rfl, ⟨cap, hr⟩, hb8, hz8⟩
            have hr2 : Rd w9 (wr.heap.size + 1) wr.heap.size 0 cap [1, 2] := hr
            have HZ := hide hz8
            have hz : wr.heap.size + 1 < w9.heap.size := by omega
            clear hz8 N hr
            have T := hide (Number_no w9 _ _ _ _ 0 _ hr2 (.inl (by decide)))
            have Lf : Hid (Calls Try.prog 25 #[.pointer (some ⟨wr.heap.size + 1, 0, none⟩)] w9 fun e w' => e = .returned (.int .i64 2) ∧ w' = w9) := Left_rd _ _ _ _ _ _ hr2
            clear hr2
            go_wp2_with fail
            refine T.out.mono ?_
            rintro e w10 ⟨rfl, rfl⟩
            go_wp2_with fail
            refine Lf.out.mono ?_
            rintro e w11 ⟨rfl, rfl⟩
            have Bf := bstep Bk hb8
            have hblk' : Hid (_ = _) := (hb8.block _ hsz).trans hblk.out
            have hsz' := Nat.lt_of_lt_of_le hsz hb8.size
            clear T Lf hblk hb8 Bk hc
            go_wp2
            go_roundw
            case rel =>
              refine ⟨_, _, _, _, _, _, _, _, _, _, _, _, _, _, _, _, _, _, _, _, _, _, _, _, _, ?_, rfl⟩
              exact ⟨2, by decide, rfl, Bf, hsz', hblk'⟩
            case measure => simp [intOf]
          · have hc : wr.cell? ⟨V.heap.size, 2, none⟩ = some (.int .i64 9) := by rw [cell_of_row wr _ 2 _ _ _ hblk.out]; rfl
            have N := hide (New_any wr ⟨#[1, 2]⟩ (by decide))
            go_wp2_with fail
            refine N.out.mono ?_
            rintro e w9 ⟨rfl, ⟨cap, hr⟩, hb8, hz8⟩
            have hr2 : Rd w9 (wr.heap.size + 1) wr.heap.size 0 cap [1, 2] := hr
            have HZ := hide hz8
            have hz : wr.heap.size + 1 < w9.heap.size := by omega
            clear hz8 N hr
            have T := hide (Number_no w9 _ _ _ _ 9 _ hr2 (.inr (.inl (by decide))))
            have Lf : Hid (Calls Try.prog 25 #[.pointer (some ⟨wr.heap.size + 1, 0, none⟩)] w9 fun e w' => e = .returned (.int .i64 2) ∧ w' = w9) := Left_rd _ _ _ _ _ _ hr2
            clear hr2
            go_wp2_with fail
            refine T.out.mono ?_
            rintro e w10 ⟨rfl, rfl⟩
            go_wp2_with fail
            refine Lf.out.mono ?_
            rintro e w11 ⟨rfl, rfl⟩
            have Bf := bstep Bk hb8
            have hblk' : Hid (_ = _) := (hb8.block _ hsz).trans hblk.out
            have hsz' := Nat.lt_of_lt_of_le hsz hb8.size
            clear T Lf hblk hb8 Bk hc
            go_wp2
            go_roundw
            case rel =>
              refine ⟨_, _, _, _, _, _, _, _, _, _, _, _, _, _, _, _, _, _, _, _, _, _, _, _, _, ?_, rfl⟩
              exact ⟨3, by decide, rfl, Bf, hsz', hblk'⟩
            case measure => simp [intOf]
          · have hc : wr.cell? ⟨V.heap.size, 3, none⟩ = some (.int .i64 (-1)) := by rw [cell_of_row wr _ 3 _ _ _ hblk.out]; rfl
            have N := hide (New_any wr ⟨#[1, 2]⟩ (by decide))
            go_wp2_with fail
            refine N.out.mono ?_
            rintro e w9 ⟨rfl, ⟨cap, hr⟩, hb8, hz8⟩
            have hr2 : Rd w9 (wr.heap.size + 1) wr.heap.size 0 cap [1, 2] := hr
            have HZ := hide hz8
            have hz : wr.heap.size + 1 < w9.heap.size := by omega
            clear hz8 N hr
            have T := hide (Number_no w9 _ _ _ _ (-1) _ hr2 (.inl (by decide)))
            have Lf : Hid (Calls Try.prog 25 #[.pointer (some ⟨wr.heap.size + 1, 0, none⟩)] w9 fun e w' => e = .returned (.int .i64 2) ∧ w' = w9) := Left_rd _ _ _ _ _ _ hr2
            clear hr2
            go_wp2_with fail
            refine T.out.mono ?_
            rintro e w10 ⟨rfl, rfl⟩
            go_wp2_with fail
            refine Lf.out.mono ?_
            rintro e w11 ⟨rfl, rfl⟩
            have Bf := bstep Bk hb8
            have hblk' : Hid (_ = _) := (hb8.block _ hsz).trans hblk.out
            have hsz' := Nat.lt_of_lt_of_le hsz hb8.size
            clear T Lf hblk hb8 Bk hc
            go_wp2
            go_roundw
            case rel =>
              refine ⟨_, _, _, _, _, _, _, _, _, _, _, _, _, _, _, _, _, _, _, _, _, _, _, _, _, ?_, rfl⟩
              exact ⟨4, by decide, rfl, Bf, hsz', hblk'⟩
            case measure => simp [intOf]
        · obtain rfl : k = 4 := by omega
          clear hblk hsz hlt hk
          obtain ⟨U, hU⟩ : ∃ U, U = wr := ⟨_, rfl⟩
          subst hU
          have s9 := Bk.size
          have N := hide (New_any U ⟨#[]⟩ (by decide))
          go_wp2_with fail
          refine N.out.mono ?_
          rintro e u1 ⟨rfl, ⟨cap, hr⟩, hb1, hz1⟩
          have HZ := hide hz1
          have Bu := bstep Bk hb1
          clear hz1 N Bk hb1
          have hr1 : Rd u1 (U.heap.size + 1) U.heap.size 0 cap [] := hr
          have T1 : Hid (Calls Try.prog 23 #[.pointer (some ⟨U.heap.size + 1, 0, none⟩), .int .i64 0] u1 fun e w' =>
              e = .returned (.tuple #[.string ⟨#[]⟩, .bool true]) ∧ (∃ o' cap', Rd w' (U.heap.size + 1) U.heap.size o' cap' []) ∧ Only (U.heap.size + 1) u1 w') := Take_yes u1 _ _ _ _ 0 _ hr1 (by omega) (by decide)
          clear hr hr1
          go_wp2_with fail
          refine T1.out.mono ?_
          rintro e u2 ⟨rfl, ⟨o2, cap2, hr2⟩, hon2⟩
          have Bv := bonly Bu hon2 (by omega)
          clear T1 hon2 Bu
          have T2 := hide (Take_no u2 _ _ _ _ (-1) _ hr2 (.inl (by decide)))
          clear hr2
          go_wp2_with fail
          refine T2.out.mono ?_
          rintro e u3 ⟨rfl, rfl⟩
          clear T2
          have U1 : Hid (Calls Try.prog 8 #[.string ⟨#[48]⟩] u3 fun e w' => e = .returned (.tuple #[.string ⟨#[]⟩, .bool false]) ∧ Below u3.heap.size u3 w') := Unhex_any u3 ⟨#[48]⟩ (by decide)
          go_wp2_with fail
          refine U1.out.mono ?_
          rintro e u4 ⟨rfl, hb4⟩
          have Bw := bstep Bv hb4
          clear U1 hb4 Bv
          have U2 : Hid (Calls Try.prog 8 #[.string ⟨#[48, 70]⟩] u4 fun e w' => e = .returned (.tuple #[.string ⟨#[]⟩, .bool false]) ∧ Below u4.heap.size u4 w') := Unhex_any u4 ⟨#[48, 70]⟩ (by decide)
          go_wp2_with fail
          refine U2.out.mono ?_
          rintro e u5 ⟨rfl, hb5⟩
          have Bx := bstep Bw hb5
          clear U2 hb5 Bw
          have U3 : Hid (Calls Try.prog 8 #[.string ⟨#[]⟩] u5 fun e w' => e = .returned (.tuple #[.string ⟨#[]⟩, .bool true]) ∧ Below u5.heap.size u5 w') := Unhex_any u5 ⟨#[]⟩ (by decide)
          go_wp2_with fail
          refine U3.out.mono ?_
          rintro e u6 ⟨rfl, hb6⟩
          have By := bstep Bx hb6
          clear U3 hb6 Bx
          have Q1 := hide (Number_nil u6 1 (by decide) (by decide))
          have Q2 := hide (Take_nil u6 0)
          have Q3 := hide (Text_nil u6 0)
          go_wp2_with fail
          refine Q1.out.mono ?_
          rintro e u7 ⟨rfl, rfl⟩
          go_wp2_with fail
          refine Q2.out.mono ?_
          rintro e u7 ⟨rfl, rfl⟩
          go_wp2_with fail
          refine Q3.out.mono ?_
          rintro e u7 ⟨rfl, rfl⟩
          clear Q1 Q2 Q3
          have U4 : Hid (Calls Try.prog 14 #[.string ⟨#[0, 254]⟩] u7 fun e w' => e = .returned (.string ⟨#[48, 48, 102, 101]⟩) ∧ Below u7.heap.size u7 w') := Hex_any u7 ⟨#[0, 254]⟩ (by decide)
          go_wp2_with fail
          refine U4.out.mono ?_
          rintro e u8 ⟨rfl, hb8⟩
          have Bz := bstep By hb8
          clear U4 hb8 By
          have Q4 := hide (left_nil u8)
          have Q5 := hide (works_true u8)
          go_wp2_with fail
          refine Q4.out.mono ?_
          rintro e u9 ⟨rfl, rfl⟩
          go_wp2_with fail
          refine Q5.out.mono ?_
          rintro e u10 ⟨rfl, hb10⟩
          have Bfin := bstep Bz hb10
          clear Q4 Q5 hb10 Bz
          go_wp2
          go_ret
          exact ⟨rfl, Bfin⟩
end Go.Proofs.Ytdgjdfpblenogaa
