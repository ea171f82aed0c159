/-
  folded and Mul.
-/
import Derived.Test.YtpaendmdcdeemaaDoorElem
import Derived.Test.YtpaendmdcdeemaaDoorProd
namespace Go.Proofs.YtpaendmdcdeemaaDoor
open Go.RowKit Num

theorem fold_carry (v i : Nat) : (v % K ^ i + 38 * (v / K ^ 4 % K ^ i)) / K ^ i ≤ 38 := by
  have hp : 0 < K ^ i := Nat.pow_pos (by decide)
  have h1 := Nat.mod_lt v hp
  have h2 := Nat.mod_lt (v / K ^ 4) hp
  have : (v % K ^ i + 38 * (v / K ^ 4 % K ^ i)) / K ^ i < 39 := by
    rw [Nat.div_lt_iff_lt_mul hp]; omega
  omega

/-- the highest bit is struck -/
theorem top_bit {S a b c d : Nat} (e : digs K 4 (S % K ^ 4) = [a, b, c, d]) :
    digs K 4 (S % 2 ^ 255) = [a, b, c, d % 9223372036854775808] ∧ S / K ^ 4 * 2 + d / 9223372036854775808 = S / 2 ^ 255 ∧ d < 18446744073709551616 := by
  have hl := digs_lt K (by decide) 4 (S % K ^ 4)
  rw [e] at hl
  have ha : a < 18446744073709551616 := hl a (by simp)
  have hb : b < 18446744073709551616 := hl b (by simp)
  have hc : c < 18446744073709551616 := hl c (by simp)
  have hd : d < 18446744073709551616 := hl d (by simp)
  have hn := congrArg (num K) e
  rw [num_digs] at hn
  simp only [num] at hn
  rw [K4] at hn ⊢
  have e255 : 2 ^ 255 = 57896044618658097711785492504343953926634992332820282019728792003956564819968 := by decide
  rw [e255]
  have eK : K = 18446744073709551616 := rfl
  rw [eK] at hn
  refine ⟨?_, by omega, hd⟩
  have hv : num K [a, b, c, d % 9223372036854775808] = S % 57896044618658097711785492504343953926634992332820282019728792003956564819968 := by
    simp only [num, eK]
    omega
  rw [← hv]
  refine digs_num K _ ?_ 4 rfl
  intro x hx
  simp at hx
  rcases hx with rfl | rfl | rfl | rfl
  · exact ha
  · exact hb
  · exact hc
  · show _ < 18446744073709551616; omega
theorem low_arr (n : Nat) (h : n < 18446744073709551616) : arr n = .agg #[.int .u64 n, .int .u64 0, .int .u64 0, .int .u64 0] := by
  show Value.agg #[.int .u64 (n % 18446744073709551616 : Nat), .int .u64 (n / 18446744073709551616 % 18446744073709551616 : Nat), .int .u64 (n / 18446744073709551616 / 18446744073709551616 % 18446744073709551616 : Nat), .int .u64 (n / 18446744073709551616 / 18446744073709551616 / 18446744073709551616 % 18446744073709551616 : Nat)] = _
  rw [show n % 18446744073709551616 = n by omega, show n / 18446744073709551616 = 0 by omega]
  rfl

set_option maxHeartbeats 3000000 in
theorem folded_any (v : Nat) (hv : v < P * P) (w : World) (V : Vars w) :
    Calls Tryd.prog 108 #[arr8 v] w fun e w' => e = .returned (arr (v % P)) ∧ Below w.heap.size w w' := by
  have hV := V.big
  have VV := hide V
  obtain ⟨v0, v1, v2, v3, v4, v5, v6, v7, ev, ev'⟩ := arr8_open v
  have EV := hide ev
  have HV := hide hv
  rw [ev']
  clear ev ev' hv V
  go_enter Tryd.func108, Tryd.ntmps108
  go_wp2
  go_loopw [4, 7] (fun c i wr => ∃ k : Nat, k ≤ 4 ∧ i = .int .i64 k ∧ c = .int .u64 ((v % K ^ k + 38 * (v / K ^ 4 % K ^ k)) / K ^ k : Nat) ∧ wr.heap.size = w.heap.size + 3 ∧ Row wr w.heap.size 126 .u64 (digs K 8 v) ∧ Row wr (w.heap.size + 1) 25 .u64 (digs K 4 0) ∧ Row wr (w.heap.size + 1 + 1) 23 .u64 (digs K 4 ((v % K ^ k + 38 * (v / K ^ 4 % K ^ k)) % K ^ k)) ∧ Below w.heap.size w wr) (fun _ i _ => 4 - (intOf i).toNat)
  case atStart =>
    refine ⟨0, by omega, rfl, by simp [Nat.mod_one], ?_, ?_, ?_, ?_, ?_⟩
    · simp
    · rw [EV.out]; repeat (first | (refine Row.mk ?_ rfl; simp; done) | refine Row.alloc ?_ _)
    · repeat (first | (refine Row.mk ?_ rfl; simp; done) | refine Row.alloc ?_ _)
    · simp only [Nat.pow_zero, Nat.mod_one]; repeat (first | (refine Row.mk ?_ rfl; simp; done) | refine Row.alloc ?_ _)
    · repeat (first | exact Below.refl _ _ | refine new_below ?_ (Nat.le_refl _))
  case round =>
    obtain ⟨k, hk, rfl, rfl, hsz, ra, rr, ro, hbel⟩ := hrel
    by_cases hlt : k < 4
    · have ca := ra.dig (k + 4) (by omega)
      have cb := ra.dig k (by omega)
      have co := ro.dig k hlt
      have fo := ro.free k
      have hA := hide (fold_step K v k (by decide))
      have hcl := fold_carry v k
      have hx : v / K ^ (k + 4) % K < 18446744073709551616 := Nat.mod_lt _ (by decide)
      have hy : v / K ^ k % K < 18446744073709551616 := Nat.mod_lt _ (by decide)
      obtain ⟨c, hc⟩ : ∃ c, c = (v % K ^ k + 38 * (v / K ^ 4 % K ^ k)) / K ^ k := ⟨_, rfl⟩
      rw [← hc] at hcl hA ⊢
      generalize v / K ^ (k + 4) % K = x at *
      generalize v / K ^ k % K = y at *
      generalize (v % K ^ k + 38 * (v / K ^ 4 % K ^ k)) % K ^ k / K ^ k % K = z at co
      have C := fun w => step_any x 38 y c hx (by omega) hy (by omega) w
      have hk0 : (0 : Int) ≤ (k : Int) := by omega
      have hk1 : (k : Int) < 4 := by omega
      have hk8 : (k : Int) < 8 := by omega
      obtain ⟨q, hq⟩ : ∃ q, q = k + 4 := ⟨_, rfl⟩
      have hw : IntKind.i64.wrap ((k : Int) + 4) = (q : Int) := by rw [IntKind.wrap_i64]; omega
      have hq1 : (q : Int) < 8 := by omega
      have hq0 : (0 : Int) ≤ (q : Int) := by omega
      rw [← hq] at ca
      obtain ⟨s, hs⟩ : ∃ s, s = (x * 38 + y + c) % 18446744073709551616 := ⟨_, rfl⟩
      obtain ⟨d, hd⟩ : ∃ d, d = (x * 38 + y + c) / 18446744073709551616 := ⟨_, rfl⟩
      rw [← hs, ← hd] at C
      have HS := hide hs
      have HD := hide hd
      have C' := hide C
      have hro := hide ro
      have hra := hide ra
      have hrr := hide rr
      clear hs hd hc ra rr ro C hq
      go_wp2
      go_region_with (go_at_call 115; refine (C'.out _).mono ?_; rintro e w' ⟨rfl, rfl⟩)
      all_goals
        go_wp2
        go_roundw
        case rel =>
          refine ⟨k + 1, by omega, int_eq (by omega), ?_, by simp; omega, (hra.out.off (by omega)).drew, (hrr.out.off (by omega)).drew, ?_, (put_below hbel (by omega)).drew⟩
          · rw [hA.out.2, HD.out]
          · rw [hA.out.1, ← digs_push K 4 _ k _ (Nat.mod_lt _ (Nat.pow_pos (by decide))) hlt (Nat.mod_lt _ (by decide)), ← HS.out]
            exact (hro.out.set k s).drew
        case measure => simp [intOf]; omega
    · have hk4 : k = 4 := by omega
      subst hk4
      obtain ⟨S, hS⟩ : ∃ S, S = v % K ^ 4 + 38 * (v / K ^ 4 % K ^ 4) := ⟨_, rfl⟩
      obtain ⟨f1, f2, f3⟩ := fold_end v S HV.out hS
      rw [← hS] at ro ⊢
      obtain ⟨r0, r1, r2, r3, er, er'⟩ := arr_open (S % K ^ 4)
      obtain ⟨t1, t2, t3⟩ := top_bit er
      obtain ⟨c, hc⟩ : ∃ c, c = S / K ^ 4 := ⟨_, rfl⟩
      rw [← hc] at f3 t2 ⊢
      obtain ⟨h, hh⟩ : ∃ h, h = r3 / 9223372036854775808 := ⟨_, rfl⟩
      obtain ⟨g, hg⟩ : ∃ g, g = r3 % 9223372036854775808 := ⟨_, rfl⟩
      rw [← hh] at t2
      rw [← hg] at t1
      have hP2 := P_two
      have hab : S / 2 ^ 255 ≤ 78 := by omega
      have hx1 : ((r3 : Int) / 9223372036854775808) = (h : Int) := by omega
      have hx2 : bits .and .u64 (r3 : Int) 9223372036854775807 = (g : Int) := by
        have h1 := bits_and_u64_nat r3 9223372036854775807 t3 (by omega)
        have e : r3 &&& 9223372036854775807 = r3 % 9223372036854775808 := Nat.and_two_pow_sub_one_eq_mod r3 63
        rw [e, ← hg] at h1
        exact h1
      have hx3 : bits .or .u64 ((c : Int) * 2) (h : Int) = ((S / 2 ^ 255 : Nat) : Int) := by
        have e2 : (c : Int) * 2 = ((c * 2 : Nat) : Int) := by omega
        rw [e2, u64_or_nat (c * 2) h (by omega) (by omega), nat_join 1 (c * 2) h (by omega) (by omega), t2]
      have C1 := fun w => sum_of (S % 2 ^ 255) (19 * (S / 2 ^ 255)) (Nat.lt_trans (Nat.mod_lt _ (by decide)) (by decide)) (by omega) w
      have e4 : (S % 2 ^ 255 + 19 * (S / 2 ^ 255)) % K ^ 4 = S % 2 ^ 255 + 19 * (S / 2 ^ 255) := Nat.mod_eq_of_lt (by omega)
      have C2 := fun w V => least_any _ f1 w V
      rw [f2] at C2
      rw [e4] at C1
      have e5 : arr (S % 2 ^ 255) = .agg #[.int .u64 r0, .int .u64 r1, .int .u64 r2, .int .u64 g] := by unfold arr; rw [t1]; rfl
      have hb19 : 19 * (S / 2 ^ 255) < 18446744073709551616 := by omega
      rw [e5, low_arr _ hb19] at C1
      obtain ⟨s0, s1, s2, s3, es, es'⟩ := arr_open (S % 2 ^ 255 + 19 * (S / 2 ^ 255))
      obtain ⟨y0, y1, y2, y3, ey, ey'⟩ := arr_open (v % P)
      rw [es'] at C1 C2
      rw [ey'] at C2
      have EY := hide ey'
      rw [er] at ro
      obtain ⟨A, hA⟩ : ∃ A, A = S / 2 ^ 255 := ⟨_, rfl⟩
      rw [← hA] at C1 hx3 hab hb19
      have e6 : ((19 * A : Nat) : Int) = 19 * (A : Int) := by omega
      rw [e6] at C1
      have C1' := hide C1
      have C2' := hide C2
      generalize (S % 2 ^ 255 + 19 * A) / K ^ 4 = cc at C1'
      obtain ⟨c0, c1, c2, c3⟩ := ro.four
      have fo := fun i => ro.free i
      have fo3 := ro.free 3
      have hro := hide ro
      have hrr := hide rr
      clear C1 C2 hS f1 f2 er er' t1 t2 hc hh hg hP2 e4 e5 es es' ey ey' ro rr ra hA
      go_wp2_with fail
      refine (C1'.out _).mono ?_
      rintro e w1 ⟨rfl, hb1⟩
      have o1 : Row w1 (w.heap.size + 1 + 1) 23 .u64 [r0, r1, r2, g] := Row.below (hro.out.set 3 g) hb1 (by simp; omega)
      have q1 : Row w1 (w.heap.size + 1) 25 .u64 (digs K 4 0) := Row.below (hrr.out.off (by omega)) hb1 (by simp; omega)
      have hB1 : Below w.heap.size w w1 := (put_below hbel (by omega)).trans (hb1.mono (by simp; omega))
      obtain ⟨o10, o11, o12, o13⟩ := o1.four
      have o1f := fun i => o1.free i
      have hs1 : w.heap.size + 1 + 1 < w1.heap.size := o1.lt
      have hq1 := hide q1
      clear hb1 C1' hro hrr hbel c0 c1 c2 c3 fo fo3 o1 q1
      go_wp2_with fail
      refine (C2'.out _ (VV.out.below (show Below w.heap.size w _ by repeat (first | refine put_below ?_ (by omega) | exact hB1)) hV)).mono ?_
      rintro e w2 ⟨rfl, hb2⟩
      have q2 : Row w2 (w.heap.size + 1) 25 .u64 (digs K 4 0) := Row.below (by repeat (first | refine Row.off ?_ (by omega) | exact hq1.out)) hb2 (by simp; omega)
      have hB2 : Below w.heap.size w w2 := (show Below w.heap.size w _ by repeat (first | refine put_below ?_ (by omega) | exact hB1)).trans (hb2.mono (by simp; omega))
      obtain ⟨z0, z1, z2, z3⟩ := q2.four
      have f := fun i => q2.free i
      clear hb2 C2' hB1 q2 o10 o11 o12 o13 o1f hq1
      go_wp2
      refine bodyPost_ret (v := .agg #[.int .u64 y0, .int .u64 y1, .int .u64 y2, .int .u64 y3]) (by simp [results, Tryd.results108, go_sem, z0, z1, z2, z3]) rfl ⟨by rw [EY.out], ?_⟩
      repeat (first | refine put_below ?_ (by omega) | refine new_below ?_ (Nat.le_refl _) | exact hB2)

set_option maxHeartbeats 2000000 in
theorem Mul_any (a b : Nat) (ha : a < P) (hb : b < P) (w : World) (V : Vars w) :
    Calls Tryd.prog 80 #[arr a, arr b] w fun e w' => e = .returned (arr (mulP a b)) ∧ Below w.heap.size w w' := by
  have hV := V.big
  have VV := hide V
  have C1 := fun w => product_any a b (Nat.lt_trans ha P_lt) (Nat.lt_trans hb P_lt) w
  have C2 := fun w V => folded_any (a * b) (Nat.mul_lt_mul'' ha hb) w V
  obtain ⟨a0, a1, a2, a3, ea, ea'⟩ := arr_open a
  obtain ⟨b0, b1, b2, b3, eb, eb'⟩ := arr_open b
  obtain ⟨s0, s1, s2, s3, s4, s5, s6, s7, es, es'⟩ := arr8_open (a * b)
  obtain ⟨r0, r1, r2, r3, er, er'⟩ := arr_open (a * b % P)
  rw [ea', eb', es'] at C1
  rw [es', er'] at C2
  have ER := hide er'
  rw [ea', eb']
  have C1' := hide C1
  have C2' := hide C2
  clear C1 C2 ea ea' eb eb' es es' er er' V ha hb
  go_enter Tryd.func80, Tryd.ntmps80
  go_wp2_with fail
  refine (C1'.out _).mono ?_
  rintro e w1 ⟨rfl, hb1⟩
  have q1 : Row w1 (w.heap.size + 1 + 1) 25 .u64 [0, 0, 0, 0] := Row.below (by repeat (first | (refine Row.mk ?_ rfl; simp; done) | refine Row.alloc ?_ _)) hb1 (by simp)
  have hB1 : Below w.heap.size w w1 := (show Below w.heap.size w _ by repeat (first | exact Below.refl _ _ | refine new_below ?_ (Nat.le_refl _))).trans (hb1.mono (by simp; omega))
  have hs1 : w.heap.size + 1 + 1 < w1.heap.size := q1.lt
  clear hb1 C1'
  go_wp2_with fail
  refine (C2'.out _ (VV.out.below hB1 hV)).mono ?_
  rintro e w2 ⟨rfl, hb2⟩
  have q2 : Row w2 (w.heap.size + 1 + 1) 25 .u64 [0, 0, 0, 0] := Row.below q1 hb2 (by omega)
  have hB2 : Below w.heap.size w w2 := hB1.trans (hb2.mono (by omega))
  obtain ⟨z0, z1, z2, z3⟩ := q2.four
  have f := fun i => q2.free i
  clear hb2 C2' hB1 q1 q2
  go_wp2
  refine bodyPost_ret (v := .agg #[.int .u64 r0, .int .u64 r1, .int .u64 r2, .int .u64 r3]) (by simp [results, Tryd.results80, go_sem, z0, z1, z2, z3]) rfl ⟨by unfold mulP; rw [ER.out], ?_⟩
  repeat (first | refine put_below ?_ (by omega) | refine new_below ?_ (Nat.le_refl _) | exact hB2)
end Go.Proofs.YtpaendmdcdeemaaDoor
