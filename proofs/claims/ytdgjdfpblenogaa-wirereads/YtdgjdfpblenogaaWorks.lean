/-
  The closed call works: it answers true and turns nothing old.
-/
import Derived.Test.YtdgjdfpblenogaaPutText
namespace Go.Proofs.Ytdgjdfpblenogaa
open Go.RowKit

theorem works_true (w : World) : Calls Try.prog 16 #[] w fun e w' => e = .returned (.bool true) ∧ Below w.heap.size w w' := by
  have C1 : Hid (Calls Try.prog 10 #[.string ⟨#[]⟩, .int .i64 2, .int .u64 300] w fun e w' => e = .returned (.string ⟨#[1, 44]⟩) ∧ Below w.heap.size w w') := put_mid w ⟨#[]⟩ 2 300 (by decide) (by decide) (by decide)
  go_enter Try.func16, Try.ntmps16
  go_wp2_with fail
  refine C1.out.mono ?_
  rintro e w1 ⟨rfl, hb1⟩
  have C2 : Hid (Calls Try.prog 12 #[.string ⟨#[1, 44]⟩, .string ⟨#[97, 98]⟩] w1 fun e w' => e = .returned (.string ⟨#[1, 44, 0, 0, 0, 2, 97, 98]⟩) ∧ Below w1.heap.size w1 w') := PutText_any w1 ⟨#[1, 44]⟩ ⟨#[97, 98]⟩ (by decide) (by decide)
  go_wp2_with fail
  refine C2.out.mono ?_
  rintro e w2 ⟨rfl, hb2⟩
  have C3 := hide (New_any w2 ⟨#[1, 44, 0, 0, 0, 2, 97, 98]⟩ (by decide))
  go_wp2_with fail
  refine C3.out.mono ?_
  rintro e w3 ⟨rfl, ⟨cap, hr⟩, hb3, hz3⟩
  have hr' : Rd w3 (w2.heap.size + 1) w2.heap.size 0 cap [1, 44, 0, 0, 0, 2, 97, 98] := hr
  have C4 : Hid (Calls Try.prog 19 #[.pointer (some ⟨w2.heap.size + 1, 0, none⟩), .int .i64 2] w3 fun e w' =>
      e = .returned (.tuple #[.int .u64 300, .bool true]) ∧ (∃ o' cap', Rd w' (w2.heap.size + 1) w2.heap.size o' cap' [0, 0, 0, 2, 97, 98]) ∧ Only (w2.heap.size + 1) w3 w') := Number_yes w3 _ _ _ _ 2 _ hr' (by omega) (by decide) (by decide) (by decide)
  clear hr hr' C1 C2 C3
  go_wp2_with fail
  refine C4.out.mono ?_
  rintro e w4 ⟨rfl, ⟨o4, cap4, hr4⟩, hb4⟩
  have C5 : Hid (Calls Try.prog 21 #[.pointer (some ⟨w2.heap.size + 1, 0, none⟩), .int .i64 2] w4 fun e w' =>
      e = .returned (.tuple #[.string ⟨#[97, 98]⟩, .bool true]) ∧ (∃ o' cap', Rd w' (w2.heap.size + 1) w2.heap.size o' cap' []) ∧ Only (w2.heap.size + 1) w4 w') := Text_yes w4 _ _ _ _ 2 _ hr4 (by omega) (by decide) (by decide) (by decide) (by decide)
  clear hr4 C4
  go_wp2_with fail
  refine C5.out.mono ?_
  rintro e w5 ⟨rfl, ⟨o5, cap5, hr5⟩, hb5⟩
  have C6 : Hid (Calls Try.prog 25 #[.pointer (some ⟨w2.heap.size + 1, 0, none⟩)] w5 fun e w' => e = .returned (.int .i64 0) ∧ w' = w5) := Left_rd w5 _ _ _ _ _ hr5
  clear hr5 C5
  have hfin : Below w.heap.size w w5 := by
    have s1 := hb1.size
    have s2 := hb2.size
    exact (((hb1.trans (hb2.mono s1)).trans (hb3.mono (by omega))).trans (hb4.below (by omega))).trans (hb5.below (by omega))
  clear hb1 hb2 hb3 hb4 hb5
  go_wp2_with fail
  refine C6.out.mono ?_
  rintro e w6 ⟨rfl, rfl⟩
  go_wp2
  go_ret
  exact ⟨rfl, hfin⟩
end Go.Proofs.Ytdgjdfpblenogaa
