/-
  Sub and Neg.
-/
import Derived.Test.YtpaendmdcdeemaaDoorElem
namespace Go.Proofs.YtpaendmdcdeemaaDoor
open Go.RowKit Num

set_option maxHeartbeats 2000000 in
theorem Sub_any (a b : Nat) (ha : a < P) (hb : b < P) (w : World) (V : Vars w) :
    Calls Tryd.prog 79 #[arr a, arr b] w fun e w' => e = .returned (arr (subP a b)) ∧ Below w.heap.size w w' := by
  have hV := V.big
  have hP := P_two
  have hP4 := P_lt
  have h0 : 0 < w.heap.size := by omega
  have C1 := fun w => difference_of a b (Nat.lt_trans ha P_lt) (Nat.lt_trans hb P_lt) w
  have C2 := fun w => sum_of ((a + K ^ 4 - b) % K ^ 4) P (Nat.mod_lt _ (by decide)) P_lt w
  have hR := subP_of a b ha hb
  obtain ⟨a0, a1, a2, a3, ea, ea'⟩ := arr_open a
  obtain ⟨b0, b1, b2, b3, eb, eb'⟩ := arr_open b
  obtain ⟨p0, p1, p2, p3, ep, ep'⟩ := arr_open P
  obtain ⟨s0, s1, s2, s3, es, es'⟩ := arr_open ((a + K ^ 4 - b) % K ^ 4)
  rw [ea', eb', es'] at C1
  obtain ⟨g0, g1, g2, g3⟩ := V.p.four ep
  rw [ea', eb']
  have C1' := hide C1
  by_cases hlt : a < b
  · rw [if_pos hlt] at hR C1'
    have e1 : (a + K ^ 4 - b) % K ^ 4 = a + K ^ 4 - b := Nat.mod_eq_of_lt (by omega)
    have e2 : ((a + K ^ 4 - b) % K ^ 4 + P) % K ^ 4 = subP a b := by
      rw [e1, hR, Nat.mod_eq_sub_mod (by omega), Nat.mod_eq_of_lt (by omega)]; omega
    rw [e2, es', ep'] at C2
    obtain ⟨r0, r1, r2, r3, er, er'⟩ := arr_open (subP a b)
    rw [er'] at C2
    have ER := hide er'
    have C2' := hide C2
    generalize ((a + K ^ 4 - b) % K ^ 4 + P) / K ^ 4 = c at C2'
    clear C1 C2 ea ea' eb eb' es es' ep ep' er er' V e1 e2 hP hP4 ha hb hR
    go_enter Tryd.func79, Tryd.ntmps79
    go_wp2_with fail
    refine (C1'.out _).mono ?_
    rintro e w1 ⟨rfl, hb1⟩
    have q1 : Row w1 (w.heap.size + 1 + 1) 25 .u64 [0, 0, 0, 0] := Row.below (by repeat (first | (refine Row.mk ?_ rfl; simp; done) | refine Row.alloc ?_ _)) hb1 (by simp)
    have hB1 : Below w.heap.size w w1 := (show Below w.heap.size w _ by repeat (first | exact Below.refl _ _ | refine new_below ?_ (Nat.le_refl _))).trans (hb1.mono (by simp; omega))
    have hs1 : w.heap.size + 1 + 1 < w1.heap.size := q1.lt
    have h01 : 0 < w1.heap.size := by omega
    have g0' := (hB1.cell (p := ⟨0, 0, none⟩) h0).trans g0
    have g1' := (hB1.cell (p := ⟨0, 1, none⟩) h0).trans g1
    have g2' := (hB1.cell (p := ⟨0, 2, none⟩) h0).trans g2
    have g3' := (hB1.cell (p := ⟨0, 3, none⟩) h0).trans g3
    clear hb1 C1' g0 g1 g2 g3
    go_wp2_with fail
    refine (C2'.out _).mono ?_
    rintro e w2 ⟨rfl, hb2⟩
    have q2 : Row w2 (w.heap.size + 1 + 1) 25 .u64 [0, 0, 0, 0] := Row.below (q1.alloc _) hb2 (by simp; omega)
    have q3 : Row w2 w1.heap.size 23 .u64 [s0, s1, s2, s3] := Row.below (Row.mk rfl rfl) hb2 (by simp)
    have hB2 : Below w.heap.size w w2 := (new_below hB1 (Nat.le_refl _)).trans (hb2.mono (by simp; omega))
    obtain ⟨z0, z1, z2, z3⟩ := q2.four
    have f := fun i => q2.free i
    obtain ⟨y0, y1, y2, y3⟩ := q3.four
    have f' := fun i => q3.free i
    clear hb2 C2' hB1 q1 q2 q3 g0' g1' g2' g3'
    go_wp2
    refine bodyPost_ret (v := .agg #[.int .u64 r0, .int .u64 r1, .int .u64 r2, .int .u64 r3]) (by simp [results, Tryd.results79, go_sem, z0, z1, z2, z3]) rfl ⟨by rw [ER.out], ?_⟩
    repeat (first | refine put_below ?_ (by omega) | refine new_below ?_ (Nat.le_refl _) | exact hB2)
  · rw [if_neg hlt] at hR C1'
    have e1 : (a + K ^ 4 - b) % K ^ 4 = subP a b := by
      rw [hR, Nat.mod_eq_sub_mod (by omega), Nat.mod_eq_of_lt (by omega)]; omega
    rw [e1] at es'
    have ER := hide es'
    clear C1 C2 ea ea' eb eb' es es' ep ep' V e1 hP hP4 ha hb hR
    go_enter Tryd.func79, Tryd.ntmps79
    go_wp2_with fail
    refine (C1'.out _).mono ?_
    rintro e w1 ⟨rfl, hb1⟩
    have q1 : Row w1 (w.heap.size + 1 + 1) 25 .u64 [0, 0, 0, 0] := Row.below (by repeat (first | (refine Row.mk ?_ rfl; simp; done) | refine Row.alloc ?_ _)) hb1 (by simp)
    have hB1 : Below w.heap.size w w1 := (show Below w.heap.size w _ by repeat (first | exact Below.refl _ _ | refine new_below ?_ (Nat.le_refl _))).trans (hb1.mono (by simp; omega))
    have hs1 : w.heap.size + 1 + 1 < w1.heap.size := q1.lt
    obtain ⟨z0, z1, z2, z3⟩ := q1.four
    have f := fun i => q1.free i
    clear hb1 C1' g0 g1 g2 g3 q1
    go_wp2
    refine bodyPost_ret (v := .agg #[.int .u64 s0, .int .u64 s1, .int .u64 s2, .int .u64 s3]) (by simp [results, Tryd.results79, go_sem, z0, z1, z2, z3, hs1]) rfl ⟨by rw [ER.out], ?_⟩
    repeat (first | refine put_below ?_ (by omega) | refine new_below ?_ (Nat.le_refl _) | exact hB1)

set_option maxHeartbeats 2000000 in
theorem Neg_any (a : Nat) (ha : a < P) (w : World) (V : Vars w) :
    Calls Tryd.prog 42 #[arr a] w fun e w' => e = .returned (arr (negP a)) ∧ Below w.heap.size w w' := by
  have hV := V.big
  have C1 := fun w V => Sub_any 0 a P_pos ha w V
  rw [negP_sub] at C1
  obtain ⟨a0, a1, a2, a3, ea, ea'⟩ := arr_open a
  obtain ⟨r0, r1, r2, r3, er, er'⟩ := arr_open (negP a)
  have ez : arr 0 = .agg #[.int .u64 0, .int .u64 0, .int .u64 0, .int .u64 0] := rfl
  rw [ea', ez, er'] at C1
  rw [ea']
  have ER := hide er'
  have C1' := hide C1
  have VV := hide V
  clear C1 ea ea' er er' V ez
  go_enter Tryd.func42, Tryd.ntmps42
  go_wp2_with fail
  refine (C1'.out _ (VV.out.below (show Below w.heap.size w _ by repeat (first | exact Below.refl _ _ | refine new_below ?_ (Nat.le_refl _))) hV)).mono ?_
  rintro e w1 ⟨rfl, hb1⟩
  have q1 : Row w1 (w.heap.size + 1) 25 .u64 [0, 0, 0, 0] := Row.below (by repeat (first | (refine Row.mk ?_ rfl; simp; done) | refine Row.alloc ?_ _)) hb1 (by simp)
  have hB1 : Below w.heap.size w w1 := (show Below w.heap.size w _ by repeat (first | exact Below.refl _ _ | refine new_below ?_ (Nat.le_refl _))).trans (hb1.mono (by simp; omega))
  obtain ⟨z0, z1, z2, z3⟩ := q1.four
  have f := fun i => q1.free i
  clear hb1 C1' q1
  go_wp2
  refine bodyPost_ret (v := .agg #[.int .u64 r0, .int .u64 r1, .int .u64 r2, .int .u64 r3]) (by simp [results, Tryd.results42, go_sem, z0, z1, z2, z3]) rfl ⟨by rw [ER.out], ?_⟩
  repeat (first | refine put_below ?_ (by omega) | refine new_below ?_ (Nat.le_refl _) | exact hB1)
end Go.Proofs.YtpaendmdcdeemaaDoor
