/-
  Small, Odd, Same, Add, Sub, Neg.
-/
import Derived.Test.YtpaendmdcdeemaaDoorLeast
import Derived.Test.YtpaendmdcdeemaaDoorEq
namespace Go.Proofs.YtpaendmdcdeemaaDoor
open Go.RowKit Num

set_option maxHeartbeats 1000000 in
theorem Small_any (n : Nat) (hn : n < 4294967296) (w : World) :
    Calls Tryd.prog 41 #[.int .u32 n] w fun e w' => e = .returned (arr n) ∧ Below w.heap.size w w' := by
  have e : arr n = .agg #[.int .u64 n, .int .u64 0, .int .u64 0, .int .u64 0] := by
    show Value.agg #[.int .u64 (n % 18446744073709551616 : Nat), .int .u64 (n / 18446744073709551616 % 18446744073709551616 : Nat), .int .u64 (n / 18446744073709551616 / 18446744073709551616 % 18446744073709551616 : Nat), .int .u64 (n / 18446744073709551616 / 18446744073709551616 / 18446744073709551616 % 18446744073709551616 : Nat)] = _
    rw [show n % 18446744073709551616 = n by omega, show n / 18446744073709551616 = 0 by omega]
    rfl
  have E := hide e
  clear e
  go_enter Tryd.func41, Tryd.ntmps41
  go_wp2
  refine bodyPost_ret (v := .agg #[.int .u64 n, .int .u64 0, .int .u64 0, .int .u64 0]) (by simp [results, Tryd.results41, go_sem]) rfl ⟨by rw [E.out], ?_⟩
  repeat (first | exact Below.refl _ _ | refine new_below ?_ (Nat.le_refl _) | refine put_below ?_ (by omega))

set_option maxHeartbeats 1000000 in
theorem Odd_any (n : Nat) (w : World) :
    Calls Tryd.prog 49 #[arr n] w fun e w' => e = .returned (.bool (decide (n % 2 = 1))) ∧ Below w.heap.size w w' := by
  obtain ⟨a0, a1, a2, a3, ea, ea'⟩ := arr_open n
  have h0 : a0 = n % K := by have := congrArg (·[0]?) ea; simpa [digs] using this.symm
  have hb : bits .and .u64 (a0 : Int) 1 = ((n % 2 : Nat) : Int) := by
    have h1 := bits_and_u64_nat a0 1 (by rw [h0]; exact Nat.mod_lt _ (by decide)) (by omega)
    rw [Nat.and_one_is_mod] at h1
    have : a0 % 2 = n % 2 := by rw [h0, show K = 18446744073709551616 from rfl]; omega
    rw [this] at h1
    exact h1
  rw [ea']
  clear ea ea' h0
  go_enter Tryd.func49, Tryd.ntmps49
  go_wp2
  go_ret
  refine ⟨?_, ?_⟩
  · congr 2
    rcases Nat.mod_two_eq_zero_or_one n with h | h <;> simp [h] <;> omega
  · repeat (first | exact Below.refl _ _ | refine new_below ?_ (Nat.le_refl _) | refine put_below ?_ (by omega))

set_option maxHeartbeats 1000000 in
theorem Same_any (a b : Nat) (ha : a < K ^ 4) (hb : b < K ^ 4) (w : World) :
    Calls Tryd.prog 40 #[arr a, arr b] w fun e w' => e = .returned (.bool (decide (a = b))) ∧ Below w.heap.size w w' := by
  obtain ⟨a0, a1, a2, a3, ea, ea'⟩ := arr_open a
  obtain ⟨b0, b1, b2, b3, eb, eb'⟩ := arr_open b
  have hE : ∀ w, (Op.equalIn 10000 23 (.agg #[.int .u64 a0, .int .u64 a1, .int .u64 a2, .int .u64 a3]) (.agg #[.int .u64 b0, .int .u64 b1, .int .u64 b2, .int .u64 b3])).run Tryd.prog w = .ok (decide (a = b)) w := fun w => by
    have h := eq23 w [a0, a1, a2, a3] [b0, b1, b2, b3] rfl rfl
    have e : ([a0, a1, a2, a3] = [b0, b1, b2, b3]) ↔ a = b := by
      rw [← ea, ← eb]
      refine ⟨fun h => ?_, fun h => by rw [h]⟩
      have := congrArg (num K) h
      rwa [num_digs, num_digs, Nat.mod_eq_of_lt ha, Nat.mod_eq_of_lt hb] at this
    rw [decide_eq_decide.2 e] at h
    exact h
  rw [ea', eb']
  clear ea' eb' ea eb
  go_enter Tryd.func40, Tryd.ntmps40
  go_wp2
  go_ret
  refine ⟨rfl, ?_⟩
  repeat (first | exact Below.refl _ _ | refine new_below ?_ (Nat.le_refl _) | refine put_below ?_ (by omega))

set_option maxHeartbeats 2000000 in
theorem Add_any (a b : Nat) (ha : a < P) (hb : b < P) (w : World) (V : Vars w) :
    Calls Tryd.prog 87 #[arr a, arr b] w fun e w' => e = .returned (arr (addP a b)) ∧ Below w.heap.size w w' := by
  have hV := V.big
  have hP := P_two
  have C1 := fun w => sum_of a b (Nat.lt_trans ha P_lt) (Nat.lt_trans hb P_lt) w
  have e1 : (a + b) % K ^ 4 = a + b := Nat.mod_eq_of_lt (by omega)
  rw [e1] at C1
  have C2 := fun w V => least_any (a + b) (by omega) w V
  obtain ⟨a0, a1, a2, a3, ea, ea'⟩ := arr_open a
  obtain ⟨b0, b1, b2, b3, eb, eb'⟩ := arr_open b
  obtain ⟨s0, s1, s2, s3, es, es'⟩ := arr_open (a + b)
  obtain ⟨r0, r1, r2, r3, er, er'⟩ := arr_open ((a + b) % P)
  rw [ea', eb', es'] at C1
  rw [es', er'] at C2
  have ER := hide er'
  rw [ea', eb']
  have VV := hide V
  have C1' := hide C1
  have C2' := hide C2
  generalize (a + b) / K ^ 4 = c at C1'
  clear C1 C2 ea ea' eb eb' es es' er er' V e1 hP ha hb
  go_enter Tryd.func87, Tryd.ntmps87
  go_wp2_with fail
  refine (C1'.out _).mono ?_
  rintro e w1 ⟨rfl, hb1⟩
  have q1 : Row w1 (w.heap.size + 1 + 1) 25 .u64 [0, 0, 0, 0] := Row.below (by repeat (first | (refine Row.mk ?_ rfl; simp; done) | refine Row.alloc ?_ _)) hb1 (by simp)
  have hB1 : Below w.heap.size w w1 := (show Below w.heap.size w _ by repeat (first | exact Below.refl _ _ | refine new_below ?_ (Nat.le_refl _))).trans (hb1.mono (by simp; omega))
  have hs1 : w.heap.size + 1 + 1 < w1.heap.size := q1.lt
  clear hb1 C1'
  go_wp2_with fail
  refine (C2'.out _ (VV.out.below (new_below hB1 (Nat.le_refl _)) hV)).mono ?_
  rintro e w2 ⟨rfl, hb2⟩
  have q2 : Row w2 (w.heap.size + 1 + 1) 25 .u64 [0, 0, 0, 0] := Row.below (q1.alloc _) hb2 (by simp; omega)
  have hB2 : Below w.heap.size w w2 := (new_below hB1 (Nat.le_refl _)).trans (hb2.mono (by simp; omega))
  obtain ⟨z0, z1, z2, z3⟩ := q2.four
  have f := fun i => q2.free i
  clear hb2 C2' hB1 q1 q2
  go_wp2
  refine bodyPost_ret (v := .agg #[.int .u64 r0, .int .u64 r1, .int .u64 r2, .int .u64 r3]) (by simp [results, Tryd.results87, go_sem, z0, z1, z2, z3]) rfl ⟨by unfold addP; rw [ER.out], ?_⟩
  repeat (first | refine put_below ?_ (by omega) | refine new_below ?_ (Nat.le_refl _) | exact hB2)
end Go.Proofs.YtpaendmdcdeemaaDoor
