/-
  PadLays answers true: the walk.
-/
import Derived.Test.YthelhalfmdbdlaaPF
namespace Go.Proofs.Ythelhalfmdbdlaa
open Go.RowKit Go.Shelf Go.Proofs.Ythelhalfmdbdlaa.Wi

theorem padV_two (l : List UInt8) : ∃ (x : ByteArray) (k : Int), padV l = .tuple #[.string x, .int .i64 k] := by
  unfold padV
  split
  · exact ⟨_, _, rfl⟩
  · exact ⟨_, _, rfl⟩
theorem unV_two (o : Option (List UInt8)) : ∃ (x : ByteArray) (k : Int), unV o = .tuple #[.string x, .int .i64 k] := by
  cases o
  · exact ⟨_, _, rfl⟩
  · exact ⟨_, _, rfl⟩
theorem sizeV_two (n : Int) : ∃ (x : Int) (k : Int), sizeV n = .tuple #[.int .i64 x, .int .i64 k] := by
  unfold sizeV
  split
  · exact ⟨_, _, rfl⟩
  split
  · exact ⟨_, _, rfl⟩
  · exact ⟨_, _, rfl⟩

set_option maxHeartbeats 4000000 in
set_option maxRecDepth 100000 in
theorem lays_true (s t : ByteArray) (n : Int) (w : World) (hs : s.size ≤ 9223372036854775800) (ht : t.size ≤ 9223372036854775800) :
    Calls Try.prog 3 #[.string s, .string t, .int .i64 n] w fun e w' => e = .returned (.bool true) ∧ Below w.heap.size w w' := by
  have A := hide (fun w => Pad_any w s hs)
  have B := hide (fun w => RPad_any w s hs)
  have C := hide (fun w => Unpad_any w t)
  have D := hide (fun w => RUnpad_any w t ht)
  have E := hide (fun w => Size_any n w)
  have F := hide (fun w => RSize_any n w)
  have G := hide (fun w => works_true w)
  obtain ⟨x1, k1, e1⟩ := padV_two s.data.toList
  obtain ⟨x2, k2, e2⟩ := unV_two (unpadL t.data.toList)
  obtain ⟨x3, k3, e3⟩ := sizeV_two n
  rw [e1] at A B
  rw [e2] at C D
  rw [e3] at E F
  clear e1 e2 e3
  go_enter Try.func3, Try.ntmps3
  go_wp2_with fail
  refine (A.out w).mono ?_
  rintro e w1 ⟨rfl, b1⟩
  go_wp2_with fail
  refine (B.out w1).mono ?_
  rintro e w2 ⟨rfl, b2⟩
  have B2 := bstep b1 b2
  clear b1 b2 A B
  go_wp2_with fail
  refine (C.out w2).mono ?_
  rintro e w3 ⟨rfl, b3⟩
  go_wp2_with fail
  refine (D.out w3).mono ?_
  rintro e w4 ⟨rfl, b4⟩
  have B4 := bstep (bstep B2 b3) b4
  clear B2 b3 b4 C D
  go_wp2_with fail
  refine (E.out w4).mono ?_
  rintro e w5 ⟨rfl, b5⟩
  have B5 := bstep B4 b5
  clear B4 b5 E
  go_wp2_with fail
  refine (F.out w5).mono ?_
  rintro e w6 ⟨rfl, rfl⟩
  clear F
  go_wp2_with fail
  refine (G.out w6).mono ?_
  rintro e w7 ⟨rfl, b7⟩
  have B7 := bstep B5 b7
  clear B5 b7 G
  go_wp2
  go_ret
  exact ⟨rfl, B7⟩

theorem lays_row (s : ByteArray) (hs : s.size ≤ 140737488351232) (t : ByteArray) (ht : t.size ≤ 140737488351232) (n : Int) (_ : -9223372036854775808 ≤ n ∧ n ≤ 9223372036854775807) (w : World) :
    Calls Try.prog 3 #[.string s, .string t, .int .i64 n] w fun e w' => e = .returned (.bool true) ∧ Below w.heap.size w w' := lays_true s t n w (by omega) (by omega)
end Go.Proofs.Ythelhalfmdbdlaa
