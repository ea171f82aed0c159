/-
  The reference's Pad and Unpad; works.
-/
import Derived.Test.YthelhalfmdbdlaaPD
import Derived.Laws.MakeOwn
import Derived.Deep.QuietTactic
import Derived.BigQuiet
namespace Go.Proofs.Ythelhalfmdbdlaa
open Go.RowKit Go.Shelf Go.Proofs.Ythelhalfmdbdlaa.Wi

/-- bytes 0 in memory -/
def zw (w : World) (c : Nat) : World := w.alloc (.cells (madeCells #[.int .u8 0] c) 5)
theorem zw_below (w : World) (c : Nat) : Below w.heap.size w (zw w c) := (Below.refl _ w).alloc (Nat.le_refl _) _
theorem make_z (w : World) (c : Nat) (h : c ≤ 1000000) : (Instr.makeSlice 29 (.int .i64 (c : Int)) (.int .i64 (c : Int))).run Try.prog w = .ok (.slice (some ⟨w.heap.size, 0, none⟩) c c) (zw w c) := by
  obtain ⟨i0, hi, hz0, hz1, hz2⟩ := info_parts info5
  have := run_make (P := Try.prog) w 29 5 i0 (.int .u8 0) Try.underlying29 hi hz0 .i64 .i64 (c : Int) (c : Int) (by omega) (Int.le_refl _) (by rw [hz2]; omega) (by omega)
  rw [hz1, Int.toNat_natCast, Nat.mul_one] at this
  exact this
theorem conv_z (w : World) (c : Nat) : (convert 29 9 (.slice (some ⟨w.heap.size, 0, none⟩) c c)).run Try.prog (zw w c) = .ok (.string ⟨(zs c).toArray⟩) (zw w c) := by
  have := run_convert_bytes_back (P := Try.prog) (zw w c) 29 9 5 ⟨w.heap.size, 0, none⟩ c (zs c) Try.underlying29 Try.underlying5 Try.underlying9 (fun j hj => by
    rw [zs_len] at hj
    rw [Addr.add_lit, Nat.zero_add]
    show (w.alloc (.cells (madeCells #[.int .u8 0] c) 5)).cell? ⟨w.heap.size, j, none⟩ = _
    rw [World.cell?_alloc_at _ _ _ _ rfl]
    simp [madeCells, hj, zs, Nat.mod_one])
  rw [zs_len] at this
  exact this

set_option maxHeartbeats 1000000 in
set_option maxRecDepth 100000 in
theorem RPad_yes (w : World) (s : ByteArray) (h : s.size ≤ 8190) :
    Calls Try.prog 8 #[.string s] w fun e w' => e = .returned (.tuple #[.string ⟨(padL s.data.toList).toArray⟩, .int .i64 0]) ∧ Below w.heap.size w w' := by
  have S := hide (RSize_any ((s.size : Int) + 2) w)
  rw [show (s.size : Int) + 2 = ((2 + s.size : Nat) : Int) by omega, sizeV_ok _ (by omega), show ((2 + s.size : Nat) : Int) = (s.size : Int) + 2 by omega] at S
  have h1 := sz_ge (2 + s.size)
  have h2 := sz_le (2 + s.size) (by omega)
  have HP : Hid (padL s.data.toList = be s.size 2 ++ s.data.toList ++ zs (szN (2 + s.size) - (2 + s.size))) := by
    show _ = _
    unfold padL
    rw [str_length]
  generalize szN (2 + s.size) = z at *
  obtain ⟨c, hc⟩ : ∃ c, z = 2 + s.size + c := ⟨z - (2 + s.size), by omega⟩
  have HC := hide hc
  clear hc
  have hbl := be_length s.size 2
  have hbs := str_size (be s.size 2)
  have h9 : min (s.size : Int) 9000 = (s.size : Int) := by omega
  go_enter Try.func8, Try.ntmps8
  go_wp2_with fail
  refine S.out.mono ?_
  rintro e w1 ⟨rfl, rfl⟩
  clear S
  have N := hide (rput_mid w1 ⟨#[]⟩ 2 s.size (by decide) (by decide) (by decide))
  rw [show (⟨#[]⟩ : ByteArray).data.toList ++ be s.size 2 = be s.size 2 from rfl] at N
  go_wp2_with fail
  refine N.out.mono ?_
  rintro e w2 ⟨rfl, b2⟩
  clear N
  have mk : (Instr.makeSlice 29 (.int .i64 ((z : Int) - (2 + (s.size : Int)))) (.int .i64 ((z : Int) - (2 + (s.size : Int))))).run Try.prog w2 = .ok (.slice (some ⟨w2.heap.size, 0, none⟩) c c) (zw w2 c) := by
    have hc := HC.out
    rw [show (z : Int) - (2 + (s.size : Int)) = (c : Int) by omega]
    exact make_z w2 c (by omega)
  have cv := conv_z w2 c
  have hzl := zs_len c
  have hzs := str_size (zs c)
  have hcs : c ≤ 8192 := by have hc := HC.out; omega
  have b3 := bstep b2 (zw_below w2 c)
  clear b2
  go_wp2
  go_ret2
  refine ⟨?_, b3⟩
  have hc := HC.out
  rw [HP.out, show z - (2 + s.size) = c by omega, str_append, str_append]
  rfl

set_option maxRecDepth 100000 in
theorem RPad_no (w : World) (s : ByteArray) (h : 8190 < s.size) (h2 : s.size ≤ 9223372036854775800) :
    Calls Try.prog 8 #[.string s] w fun e w' => e = .returned (.tuple #[.string ⟨#[]⟩, .int .i64 3]) ∧ Below w.heap.size w w' := by
  have S := hide (RSize_any (min (s.size : Int) 9000 + 2) w)
  rw [show min (s.size : Int) 9000 + 2 = ((min s.size 9000 + 2 : Nat) : Int) by omega, sizeV_long _ (by omega), show ((min s.size 9000 + 2 : Nat) : Int) = min (s.size : Int) 9000 + 2 by omega] at S
  have h9 : min (s.size : Int) 9000 ≤ 9000 := by omega
  have hb := Below.refl w.heap.size w
  go_enter Try.func8, Try.ntmps8
  go_wp2_with fail
  refine S.out.mono ?_
  rintro e w1 ⟨rfl, rfl⟩
  clear S
  go_wp2
  go_ret2
  exact ⟨rfl, hb⟩

theorem RPad_any (w : World) (s : ByteArray) (h2 : s.size ≤ 9223372036854775800) :
    Calls Try.prog 8 #[.string s] w fun e w' => e = .returned (padV s.data.toList) ∧ Below w.heap.size w w' := by
  unfold padV
  rw [str_length]
  by_cases h : s.size ≤ 8190
  · rw [if_pos h]; exact RPad_yes w s h
  · rw [if_neg h]; exact RPad_no w s (by omega) h2

set_option maxHeartbeats 1000000 in
set_option maxRecDepth 100000 in
theorem works_true (w : World) : Calls Try.prog 13 #[] w fun e w' => e = .returned (.bool true) ∧ Below w.heap.size w w' := by
  have C1 : Hid (Calls Try.prog 7 #[.string ⟨#[97, 98]⟩] w fun e w' => e = .returned (.tuple #[.string ⟨#[0, 2, 97, 98, 0, 0, 0, 0, 0, 0, 0, 0, 0, 0, 0, 0, 0, 0, 0, 0, 0, 0, 0, 0, 0, 0, 0, 0, 0, 0, 0, 0]⟩, .int .i64 0]) ∧ Below w.heap.size w w') := Pad_yes w ⟨#[97, 98]⟩ (by decide)
  go_enter Try.func13, Try.ntmps13
  go_wp2_with fail
  refine C1.out.mono ?_
  rintro e w1 ⟨rfl, hb1⟩
  clear C1
  have C2 : Hid (Calls Try.prog 9 #[.string ⟨#[0, 2, 97, 98, 0, 0, 0, 0, 0, 0, 0, 0, 0, 0, 0, 0, 0, 0, 0, 0, 0, 0, 0, 0, 0, 0, 0, 0, 0, 0, 0, 0]⟩] w1 fun e w' => e = .returned (.tuple #[.string ⟨#[97, 98]⟩, .int .i64 0]) ∧ Below w1.heap.size w1 w') := by
    have := Unpad_any w1 ⟨#[0, 2, 97, 98, 0, 0, 0, 0, 0, 0, 0, 0, 0, 0, 0, 0, 0, 0, 0, 0, 0, 0, 0, 0, 0, 0, 0, 0, 0, 0, 0, 0]⟩
    rw [show unpadL (⟨#[0, 2, 97, 98, 0, 0, 0, 0, 0, 0, 0, 0, 0, 0, 0, 0, 0, 0, 0, 0, 0, 0, 0, 0, 0, 0, 0, 0, 0, 0, 0, 0]⟩ : ByteArray).data.toList = some [97, 98] by decide +kernel] at this
    exact this
  go_wp2_with fail
  refine C2.out.mono ?_
  rintro e w2 ⟨rfl, hb2⟩
  clear C2
  have mk : (Instr.makeSlice 29 (.int .i64 28) (.int .i64 28)).run Try.prog w2 = .ok (.slice (some ⟨w2.heap.size, 0, none⟩) 28 28) (zw w2 28) := make_z w2 28 (by decide)
  have cv : (convert 29 9 (.slice (some ⟨w2.heap.size, 0, none⟩) 28 28)).run Try.prog (zw w2 28) = .ok (.string ⟨#[0, 0, 0, 0, 0, 0, 0, 0, 0, 0, 0, 0, 0, 0, 0, 0, 0, 0, 0, 0, 0, 0, 0, 0, 0, 0, 0, 0]⟩) (zw w2 28) := conv_z w2 28
  have hq : (⟨#[0, 2, 97, 98]⟩ : ByteArray) ++ ⟨#[0, 0, 0, 0, 0, 0, 0, 0, 0, 0, 0, 0, 0, 0, 0, 0, 0, 0, 0, 0, 0, 0, 0, 0, 0, 0, 0, 0]⟩ = ⟨#[0, 2, 97, 98, 0, 0, 0, 0, 0, 0, 0, 0, 0, 0, 0, 0, 0, 0, 0, 0, 0, 0, 0, 0, 0, 0, 0, 0, 0, 0, 0, 0]⟩ := by decide +kernel
  have hb3 := bstep (bstep hb1 hb2) (zw_below w2 28)
  clear hb1 hb2
  go_wp2
  go_ret
  exact ⟨rfl, hb3⟩
end Go.Proofs.Ythelhalfmdbdlaa
