/-
  PadHides answers true: the walk.
-/
import Derived.Test.YthelhalfmdbdlaaPG
namespace Go.Proofs.Ythelhalfmdbdlaa
open Go.RowKit Go.Shelf Go.Proofs.Ythelhalfmdbdlaa.Wi

set_option maxHeartbeats 4000000 in
set_option maxRecDepth 100000 in
theorem hides_true (s t : ByteArray) (w : World) (hs : s.size ≤ 9223372036854775800) (ht : t.size ≤ 9223372036854775800) :
    Calls Try.prog 5 #[.string s, .string t] w fun e w' => e = .returned (.bool true) ∧ Below w.heap.size w w' := by
  obtain ⟨a, ha⟩ : ∃ a, min s.size 8190 = a := ⟨_, rfl⟩
  obtain ⟨b, hb⟩ : ∃ a, min t.size 8190 = a := ⟨_, rfl⟩
  have ma : min (s.size : Int) 8190 = (a : Int) := by omega
  have mb : min (t.size : Int) 8190 = (b : Int) := by omega
  have la : a ≤ s.size := by omega
  have lb : b ≤ t.size := by omega
  have l8 : a ≤ 8190 := by omega
  have l9 : b ≤ 8190 := by omega
  clear ha hb
  go_enter Try.func5, Try.ntmps5
  go_wp2_with fail
  have hxa : (s.extract 0 a).size = a := by rw [ByteArray.size_extract]; omega
  have hyb : (t.extract 0 b).size = b := by rw [ByteArray.size_extract]; omega
  clear ma mb la lb hs ht
  generalize s.extract 0 a = x at *
  generalize t.extract 0 b = y at *
  have A := hide (Pad_yes w x (by omega))
  refine A.out.mono ?_
  rintro e w1 ⟨rfl, b1⟩
  have B := hide (Pad_yes w1 y (by omega))
  have hpa : (padL x.data.toList).length = szN (2 + a) := by rw [padL_len, str_length, hxa]
  have hpb : (padL y.data.toList).length = szN (2 + b) := by rw [padL_len, str_length, hyb]
  have hpa2 : (⟨(padL x.data.toList).toArray⟩ : ByteArray).size = szN (2 + a) := (str_size _).trans hpa
  have hpb2 : (⟨(padL y.data.toList).toArray⟩ : ByteArray).size = szN (2 + b) := (str_size _).trans hpb
  have SA : Hid (∀ w, Calls Try.prog 11 #[.int .i64 ((a : Int) + 2)] w fun e w' => e = .returned (.tuple #[.int .i64 (szN (2 + a)), .int .i64 0]) ∧ Below w.heap.size w w') := by
    intro w
    have := Size_any ((a : Int) + 2) w
    rw [show (a : Int) + 2 = ((2 + a : Nat) : Int) by omega, sizeV_ok _ (by omega), show ((2 + a : Nat) : Int) = (a : Int) + 2 by omega] at this
    exact this
  have SB : Hid (∀ w, Calls Try.prog 11 #[.int .i64 ((b : Int) + 2)] w fun e w' => e = .returned (.tuple #[.int .i64 (szN (2 + b)), .int .i64 0]) ∧ Below w.heap.size w w') := by
    intro w
    have := Size_any ((b : Int) + 2) w
    rw [show (b : Int) + 2 = ((2 + b : Nat) : Int) by omega, sizeV_ok _ (by omega), show ((2 + b : Nat) : Int) = (b : Int) + 2 by omega] at this
    exact this
  have hmo : a ≤ b → szN (2 + a) ≤ szN (2 + b) := fun h => sz_mono (by omega)
  have hz8 := sz_le (2 + a) (by omega)
  have hz9 := sz_le (2 + b) (by omega)
  have G := hide (fun w => works_true w)
  by_cases hxy : x = y
  · subst hxy
    obtain rfl : a = b := by omega
    clear hmo
    generalize szN (2 + a) = z at *
    generalize padL x.data.toList = pl at *
    clear A hpb hpb2 SB hz9 hyb
    go_wp2_with fail
    refine B.out.mono ?_
    rintro e w2 ⟨rfl, b2⟩
    have B2 := bstep b1 b2
    clear b1 b2 B
    go_wp2_with fail
    refine (SA.out w2).mono ?_
    rintro e w3 ⟨rfl, b3⟩
    go_wp2_with fail
    refine (SA.out w3).mono ?_
    rintro e w4 ⟨rfl, b4⟩
    have B4 := bstep (bstep B2 b3) b4
    clear b3 b4 B2 SA
    go_wp2_with fail
    refine (G.out w4).mono ?_
    rintro e w5 ⟨rfl, b5⟩
    have B5 := bstep B4 b5
    clear b5 B4 G
    go_wp2
    go_ret
    exact ⟨rfl, B5⟩
  · have hpne : padL x.data.toList ≠ padL y.data.toList := fun e => ba_ne hxy (padL_inj (by rw [str_length]; omega) (by rw [str_length]; omega) e)
    have n1 : (padL x.data.toList == padL y.data.toList) = false := beq_eq_false_iff_ne.2 hpne
    have n2 : (x.toList == y.toList) = false := by rw [ByteArray.toList_eq, ByteArray.toList_eq]; exact beq_eq_false_iff_ne.2 (ba_ne hxy)
    clear hpne hxy A
    obtain ⟨za, hza⟩ : ∃ z, szN (2 + a) = z := ⟨_, rfl⟩
    obtain ⟨zb, hzb⟩ : ∃ z, szN (2 + b) = z := ⟨_, rfl⟩
    rw [hza] at hpa hpa2 SA hmo hz8
    rw [hzb] at hpb hpb2 SB hmo hz9
    clear hza hzb
    generalize padL x.data.toList = pl at *
    generalize padL y.data.toList = pm at *
    have HM := hide hmo
    clear hmo
    go_wp2_with fail
    refine B.out.mono ?_
    rintro e w2 ⟨rfl, b2⟩
    have B2 := bstep b1 b2
    clear b1 b2 B
    go_wp2_with fail
    refine (SA.out w2).mono ?_
    rintro e w3 ⟨rfl, b3⟩
    go_wp2_with fail
    refine (SB.out w3).mono ?_
    rintro e w4 ⟨rfl, b4⟩
    have B4 := bstep (bstep B2 b3) b4
    clear b3 b4 B2 SA SB
    by_cases hab : a ≤ b
    · have hm := HM.out hab
      have c1 : (a : Int) ≤ (b : Int) := by omega
      have c2 : ¬ (za : Int) > (zb : Int) := by omega
      clear hm hab HM
      go_wp2_with fail
      refine (G.out w4).mono ?_
      rintro e w5 ⟨rfl, b5⟩
      have B5 := bstep B4 b5
      clear b5 B4 G
      go_wp2
      go_ret
      exact ⟨rfl, B5⟩
    · have c1 : ¬ (a : Int) ≤ (b : Int) := by omega
      clear hab HM
      go_wp2_with fail
      refine (G.out w4).mono ?_
      rintro e w5 ⟨rfl, b5⟩
      have B5 := bstep B4 b5
      clear b5 B4 G
      go_wp2
      go_ret
      exact ⟨rfl, B5⟩

theorem hides_row (s : ByteArray) (hs : s.size ≤ 140737488351232) (t : ByteArray) (ht : t.size ≤ 140737488351232) (w : World) :
    Calls Try.prog 5 #[.string s, .string t] w fun e w' => e = .returned (.bool true) ∧ Below w.heap.size w w' := hides_true s t w (by omega) (by omega)
end Go.Proofs.Ythelhalfmdbdlaa
