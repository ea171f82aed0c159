/-
 folded and Mul.
-/
import Derived.Test.YtefjnfeckenmkaaGreatDoorW0
import Derived.Test.YtefjnfeckenmkaaGreatDoorProd
import Derived.Lib.AppendStr
namespace Go.Proofs.YtefjnfeckenmkaaGreatDoor
set_option maxHeartbeats 3000000
open Go.RowKit Num
theorem fold_carry (v i : Nat) : (v % K ^ i + 38 * (v / K ^ 4 % K ^ i)) / K ^ i ≤ 38 := by
 have hp : 0 < K ^ i := Nat.pow_pos (by decide)
 have h1 := Nat.mod_lt v hp
 have h2 := Nat.mod_lt (v / K ^ 4) hp
 have : (v % K ^ i + 38 * (v / K ^ 4 % K ^ i)) / K ^ i < 39 := by
  rw [Nat.div_lt_iff_lt_mul hp]; omega
 omega
theorem top_bit {S a b c d : Nat} (e : digs K 4 (S % K ^ 4) = [a, b, c, d]) :
  digs K 4 (S % 2 ^ 255) = [a, b, c, d % 9223372036854775808] ∧ S / K ^ 4 * 2 + d / 9223372036854775808 = S / 2 ^ 255 ∧ d < 18446744073709551616 := by
 have hl := digs_lt K (by decide) 4 (S % K ^ 4)
 rw [e] at hl
 have ha : a < 18446744073709551616 := hl a (by simp)
 have hb : b < 18446744073709551616 := hl b (by simp)
 have hc : c < 18446744073709551616 := hl c (by simp)
 have hd : d < 18446744073709551616 := hl d (by simp)
 have hn := congrArg (num K) e
 rw [num_digs] at hn
 simp only [num] at hn
 rw [K4] at hn ⊢
 have e255 : 2 ^ 255 = 57896044618658097711785492504343953926634992332820282019728792003956564819968 := by decide
 rw [e255]
 have eK : K = 18446744073709551616 := rfl
 rw [eK] at hn
 refine ⟨?_, by omega, hd⟩
 have hv : num K [a, b, c, d % 9223372036854775808] = S % 57896044618658097711785492504343953926634992332820282019728792003956564819968 := by
  simp only [num, eK]
  omega
 rw [← hv]
 refine digs_num K _ ?_ 4 rfl
 intro x hx
 simp at hx
 rcases hx with rfl | rfl | rfl | rfl
 ·exact ha
 ·exact hb
 ·exact hc
 ·show _ < 18446744073709551616; omega
theorem low_arr (n : Nat) (h : n < 18446744073709551616) : arr n = .agg #[.int .u64 n, .int .u64 0, .int .u64 0, .int .u64 0] := by
 show Value.agg #[.int .u64 (n % 18446744073709551616 : Nat), .int .u64 (n / 18446744073709551616 % 18446744073709551616 : Nat), .int .u64 (n / 18446744073709551616 / 18446744073709551616 % 18446744073709551616 : Nat), .int .u64 (n / 18446744073709551616 / 18446744073709551616 / 18446744073709551616 % 18446744073709551616 : Nat)] = _
 rw [show n % 18446744073709551616 = n by omega, show n / 18446744073709551616 = 0 by omega]
 rfl
theorem folded_any (v : Nat) (hv : v < P * P) (w : World) (V : Vars w) :
  Calls Tryz.prog 124 #[arr8 v] w fun e w' => e = .returned (arr (v % P)) ∧ Below w.heap.size w w' := by
 have hV := V.big
 have VV := hide V
 obtain ⟨v0, v1, v2, v3, v4, v5, v6, v7, ev, ev'⟩ := arr8_open v
 have EV := hide ev
 have HV := hide hv
 rw [ev']
 clear ev ev' hv V
 go_enter Tryz.func124, Tryz.ntmps124
 go_wp2
 go_loopw [4, 7] (fun c i wr => ∃ k : Nat, k ≤ 4 ∧ i = .int .i64 k ∧ c = .int .u64 ((v % K ^ k + 38 * (v / K ^ 4 % K ^ k)) / K ^ k : Nat) ∧ wr.heap.size = w.heap.size + 3 ∧ Row wr w.heap.size 107 .u64 (digs K 8 v) ∧ Row wr (w.heap.size + 1) 37 .u64 (digs K 4 0) ∧ Row wr (w.heap.size + 1 + 1) 35 .u64 (digs K 4 ((v % K ^ k + 38 * (v / K ^ 4 % K ^ k)) % K ^ k)) ∧ Below w.heap.size w wr) (fun _ i _ => 4 - (intOf i).toNat)
 case atStart =>
  refine ⟨0, by omega, rfl, by simp [Nat.mod_one], ?_, ?_, ?_, ?_, ?_⟩
  ·simp
  ·rw [EV.out]; repeat (first | (refine Row.mk ?_ rfl; simp; done) | refine Row.alloc ?_ _)
  ·repeat (first | (refine Row.mk ?_ rfl; simp; done) | refine Row.alloc ?_ _)
  ·simp only [Nat.pow_zero, Nat.mod_one]; repeat (first | (refine Row.mk ?_ rfl; simp; done) | refine Row.alloc ?_ _)
  ·repeat (first | exact Below.refl _ _ | refine new_below ?_ (Nat.le_refl _))
 case round =>
  obtain ⟨k, hk, rfl, rfl, hsz, ra, rr, ro, hbel⟩ := hrel
  by_cases hlt : k < 4
  ·have ca := ra.dig (k + 4) (by omega)
   have cb := ra.dig k (by omega)
   have co := ro.dig k hlt
   have fo := ro.free k
   have hA := hide (fold_step K v k (by decide))
   have hcl := fold_carry v k
   have hx : v / K ^ (k + 4) % K < 18446744073709551616 := Nat.mod_lt _ (by decide)
   have hy : v / K ^ k % K < 18446744073709551616 := Nat.mod_lt _ (by decide)
   obtain ⟨c, hc⟩ : ∃ c, c = (v % K ^ k + 38 * (v / K ^ 4 % K ^ k)) / K ^ k := ⟨_, rfl⟩
   rw [← hc] at hcl hA ⊢
   generalize v / K ^ (k + 4) % K = x at *
   generalize v / K ^ k % K = y at *
   generalize (v % K ^ k + 38 * (v / K ^ 4 % K ^ k)) % K ^ k / K ^ k % K = z at co
   have C := fun w => step_any x 38 y c hx (by omega) hy (by omega) w
   have hk0 : (0 : Int) ≤ (k : Int) := by omega
   have hk1 : (k : Int) < 4 := by omega
   have hk8 : (k : Int) < 8 := by omega
   obtain ⟨q, hq⟩ : ∃ q, q = k + 4 := ⟨_, rfl⟩
   have hw : IntKind.i64.wrap ((k : Int) + 4) = (q : Int) := by rw [IntKind.wrap_i64]; omega
   have hq1 : (q : Int) < 8 := by omega
   have hq0 : (0 : Int) ≤ (q : Int) := by omega
   rw [← hq] at ca
   obtain ⟨s, hs⟩ : ∃ s, s = (x * 38 + y + c) % 18446744073709551616 := ⟨_, rfl⟩
   obtain ⟨d, hd⟩ : ∃ d, d = (x * 38 + y + c) / 18446744073709551616 := ⟨_, rfl⟩
   rw [← hs, ← hd] at C
   have HS := hide hs
   have HD := hide hd
   have C' := hide C
   have hro := hide ro
   have hra := hide ra
   have hrr := hide rr
   clear hs hd hc ra rr ro C hq
   go_wp2
   go_region_with (go_at_call 137; refine (C'.out _).mono ?_; rintro e w' ⟨rfl, rfl⟩)
   all_goals
    go_wp2
    go_roundw
    case rel =>
     refine ⟨k + 1, by omega, int_eq (by omega), ?_, by simp; omega, (hra.out.off (by omega)).drew, (hrr.out.off (by omega)).drew, ?_, (put_below hbel (by omega)).drew⟩
     ·rw [hA.out.2, HD.out]
     ·rw [hA.out.1, ← digs_push K 4 _ k _ (Nat.mod_lt _ (Nat.pow_pos (by decide))) hlt (Nat.mod_lt _ (by decide)), ← HS.out]
      exact (hro.out.set k s).drew
    case measure => simp [intOf]; omega
  ·have hk4 : k = 4 := by omega
   subst hk4
   obtain ⟨S, hS⟩ : ∃ S, S = v % K ^ 4 + 38 * (v / K ^ 4 % K ^ 4) := ⟨_, rfl⟩
   obtain ⟨f1, f2, f3⟩ := fold_end v S HV.out hS
   rw [← hS] at ro ⊢
   obtain ⟨r0, r1, r2, r3, er, er'⟩ := arr_open (S % K ^ 4)
   obtain ⟨t1, t2, t3⟩ := top_bit er
   obtain ⟨c, hc⟩ : ∃ c, c = S / K ^ 4 := ⟨_, rfl⟩
   rw [← hc] at f3 t2 ⊢
   obtain ⟨h, hh⟩ : ∃ h, h = r3 / 9223372036854775808 := ⟨_, rfl⟩
   obtain ⟨g, hg⟩ : ∃ g, g = r3 % 9223372036854775808 := ⟨_, rfl⟩
   rw [← hh] at t2
   rw [← hg] at t1
   have hP2 := P_two
   have hab : S / 2 ^ 255 ≤ 78 := by omega
   have hx1 : ((r3 : Int) / 9223372036854775808) = (h : Int) := by omega
   have hx2 : bits .and .u64 (r3 : Int) 9223372036854775807 = (g : Int) := by
    have h1 := bits_and_u64_nat r3 9223372036854775807 t3 (by omega)
    have e : r3 &&& 9223372036854775807 = r3 % 9223372036854775808 := Nat.and_two_pow_sub_one_eq_mod r3 63
    rw [e, ← hg] at h1
    exact h1
   have hx3 : bits .or .u64 ((c : Int) * 2) (h : Int) = ((S / 2 ^ 255 : Nat) : Int) := by
    have e2 : (c : Int) * 2 = ((c * 2 : Nat) : Int) := by omega
    rw [e2, u64_or_nat (c * 2) h (by omega) (by omega), nat_join 1 (c * 2) h (by omega) (by omega), t2]
   have C1 := fun w => sum_of (S % 2 ^ 255) (19 * (S / 2 ^ 255)) (Nat.lt_trans (Nat.mod_lt _ (by decide)) (by decide)) (by omega) w
   have e4 : (S % 2 ^ 255 + 19 * (S / 2 ^ 255)) % K ^ 4 = S % 2 ^ 255 + 19 * (S / 2 ^ 255) := Nat.mod_eq_of_lt (by omega)
   have C2 := fun w V => least_any _ f1 w V
   rw [f2] at C2
   rw [e4] at C1
   have e5 : arr (S % 2 ^ 255) = .agg #[.int .u64 r0, .int .u64 r1, .int .u64 r2, .int .u64 g] := by unfold arr; rw [t1]; rfl
   have hb19 : 19 * (S / 2 ^ 255) < 18446744073709551616 := by omega
   rw [e5, low_arr _ hb19] at C1
   obtain ⟨s0, s1, s2, s3, es, es'⟩ := arr_open (S % 2 ^ 255 + 19 * (S / 2 ^ 255))
   obtain ⟨y0, y1, y2, y3, ey, ey'⟩ := arr_open (v % P)
   rw [es'] at C1 C2
   rw [ey'] at C2
   have EY := hide ey'
   rw [er] at ro
   obtain ⟨A, hA⟩ : ∃ A, A = S / 2 ^ 255 := ⟨_, rfl⟩
   rw [← hA] at C1 hx3 hab hb19
   have e6 : ((19 * A : Nat) : Int) = 19 * (A : Int) := by omega
   rw [e6] at C1
   have C1' := hide C1
   have C2' := hide C2
   generalize (S % 2 ^ 255 + 19 * A) / K ^ 4 = cc at C1'
   obtain ⟨c0, c1, c2, c3⟩ := ro.four
   have fo := fun i => ro.free i
   have fo3 := ro.free 3
   have hro := hide ro
   have hrr := hide rr
   clear C1 C2 hS f1 f2 er er' t1 t2 hc hh hg hP2 e4 e5 es es' ey ey' ro rr ra hA
   go_wp2_with fail
   refine (C1'.out _).mono ?_
   rintro e w1 ⟨rfl, hb1⟩
   have o1 : Row w1 (w.heap.size + 1 + 1) 35 .u64 [r0, r1, r2, g] := Row.below (hro.out.set 3 g) hb1 (by simp; omega)
   have q1 : Row w1 (w.heap.size + 1) 37 .u64 (digs K 4 0) := Row.below (hrr.out.off (by omega)) hb1 (by simp; omega)
   have hB1 : Below w.heap.size w w1 := (put_below hbel (by omega)).trans (hb1.mono (by simp; omega))
   obtain ⟨o10, o11, o12, o13⟩ := o1.four
   have o1f := fun i => o1.free i
   have hs1 : w.heap.size + 1 + 1 < w1.heap.size := o1.lt
   have hq1 := hide q1
   clear hb1 C1' hro hrr hbel c0 c1 c2 c3 fo fo3 o1 q1
   go_wp2_with fail
   refine (C2'.out _ (VV.out.below (show Below w.heap.size w _ by repeat (first | refine put_below ?_ (by omega) | exact hB1)) hV)).mono ?_
   rintro e w2 ⟨rfl, hb2⟩
   have q2 : Row w2 (w.heap.size + 1) 37 .u64 (digs K 4 0) := Row.below (by repeat (first | refine Row.off ?_ (by omega) | exact hq1.out)) hb2 (by simp; omega)
   have hB2 : Below w.heap.size w w2 := (show Below w.heap.size w _ by repeat (first | refine put_below ?_ (by omega) | exact hB1)).trans (hb2.mono (by simp; omega))
   obtain ⟨z0, z1, z2, z3⟩ := q2.four
   have f := fun i => q2.free i
   clear hb2 C2' hB1 q2 o10 o11 o12 o13 o1f hq1
   go_wp2
   refine bodyPost_ret (v := .agg #[.int .u64 y0, .int .u64 y1, .int .u64 y2, .int .u64 y3]) (by simp [results, Tryz.results124, go_sem, z0, z1, z2, z3]) rfl ⟨by rw [EY.out], ?_⟩
   repeat (first | refine put_below ?_ (by omega) | refine new_below ?_ (Nat.le_refl _) | exact hB2)
theorem Mul_any (a b : Nat) (ha : a < P) (hb : b < P) (w : World) (V : Vars w) :
  Calls Tryz.prog 90 #[arr a, arr b] w fun e w' => e = .returned (arr (mulP a b)) ∧ Below w.heap.size w w' := by
 have hV := V.big
 have VV := hide V
 have C1 := fun w => product_any a b (Nat.lt_trans ha P_lt) (Nat.lt_trans hb P_lt) w
 have C2 := fun w V => folded_any (a * b) (Nat.mul_lt_mul'' ha hb) w V
 obtain ⟨a0, a1, a2, a3, ea, ea'⟩ := arr_open a
 obtain ⟨b0, b1, b2, b3, eb, eb'⟩ := arr_open b
 obtain ⟨s0, s1, s2, s3, s4, s5, s6, s7, es, es'⟩ := arr8_open (a * b)
 obtain ⟨r0, r1, r2, r3, er, er'⟩ := arr_open (a * b % P)
 rw [ea', eb', es'] at C1
 rw [es', er'] at C2
 have ER := hide er'
 rw [ea', eb']
 have C1' := hide C1
 have C2' := hide C2
 clear C1 C2 ea ea' eb eb' es es' er er' V ha hb
 go_enter Tryz.func90, Tryz.ntmps90
 go_wp2_with fail
 refine (C1'.out _).mono ?_
 rintro e w1 ⟨rfl, hb1⟩
 have q1 : Row w1 (w.heap.size + 1 + 1) 37 .u64 [0, 0, 0, 0] := Row.below (by repeat (first | (refine Row.mk ?_ rfl; simp; done) | refine Row.alloc ?_ _)) hb1 (by simp)
 have hB1 : Below w.heap.size w w1 := (show Below w.heap.size w _ by repeat (first | exact Below.refl _ _ | refine new_below ?_ (Nat.le_refl _))).trans (hb1.mono (by simp; omega))
 have hs1 : w.heap.size + 1 + 1 < w1.heap.size := q1.lt
 clear hb1 C1'
 go_wp2_with fail
 refine (C2'.out _ (VV.out.below hB1 hV)).mono ?_
 rintro e w2 ⟨rfl, hb2⟩
 have q2 : Row w2 (w.heap.size + 1 + 1) 37 .u64 [0, 0, 0, 0] := Row.below q1 hb2 (by omega)
 have hB2 : Below w.heap.size w w2 := hB1.trans (hb2.mono (by omega))
 obtain ⟨z0, z1, z2, z3⟩ := q2.four
 have f := fun i => q2.free i
 clear hb2 C2' hB1 q1 q2
 go_wp2
 refine bodyPost_ret (v := .agg #[.int .u64 r0, .int .u64 r1, .int .u64 r2, .int .u64 r3]) (by simp [results, Tryz.results90, go_sem, z0, z1, z2, z3]) rfl ⟨by unfold mulP; rw [ER.out], ?_⟩
 repeat (first | refine put_below ?_ (by omega) | refine new_below ?_ (Nat.le_refl _) | exact hB2)
end Go.Proofs.YtefjnfeckenmkaaGreatDoor

namespace Go.Proofs.YtefjnfeckenmkaaGreatDoor
set_option maxHeartbeats 2000000
open Go.RowKit Num
set_option linter.unusedSimpArgs false
structure Only (b : Nat) (w w' : World) : Prop where
 os : w'.os = w.os
 tape : w'.tape = w.tape
 output : w'.output = w.output
 size : w.heap.size ≤ w'.heap.size
 block : ∀ k, k < w.heap.size → k ≠ b → w'.heap[k]? = w.heap[k]?
theorem Only.refl (b : Nat) (w : World) : Only b w w := ⟨rfl, rfl, rfl, Nat.le_refl _, fun _ _ _ => rfl⟩
theorem Only.step {b B : Nat} {a w w' : World} (h : Only b a w) (hb : Below B w w') (hB : a.heap.size ≤ B) : Only b a w' :=
 ⟨hb.os.trans h.os, hb.tape.trans h.tape, hb.output.trans h.output, Nat.le_trans h.size hb.size, fun k hk hkb => (hb.block k (by omega)).trans (h.block k hk hkb)⟩
theorem Only.new {b : Nat} {a w : World} (h : Only b a w) {o : Obj} : Only b a (w.alloc o) := h.step (new_below (Below.refl _ w) h.size) (Nat.le_refl _)
theorem Only.put {b : Nat} {a w : World} (h : Only b a w) {g o : Nat} {v : Value} (hg : g = b ∨ a.heap.size ≤ g) : Only b a (w.setCell ⟨g, o, none⟩ v) :=
 ⟨h.os, h.tape, h.output, by have := h.size; simpa using this, fun k hk hkb => by
  rw [Below.heap_setCell w ⟨g, o, none⟩ v k (show k ≠ g by omega)]
  exact h.block k hk hkb⟩
theorem Only.row {b g : Nat} {w w' : World} {t : TypeId} {k : IntKind} {l : List Nat} (h : Only b w w') (r : Row w g t k l) (hg : g ≠ b) : Row w' g t k l := by
 unfold Row
 rw [h.block g r.lt hg]
 exact r
theorem Only.below {b B : Nat} {w w' : World} (h : Only b w w') (hB : B ≤ b) (hw : B ≤ w.heap.size) : Below B w w' :=
 ⟨h.os, h.tape, h.output, h.size, fun k hk => h.block k (by omega) (by omega)⟩
theorem next_any (b n : Nat) (hn : n < P) (w : World) (V : Vars w) (_hb : 4 ≤ b) (R : Row w b 37 .u64 (digs K 4 n)) :
  Calls Tryz.prog 138 #[.pointer (some ⟨b, 0, none⟩)] w fun e w' => e = .returned (arr n) ∧ Only b w w' ∧ Row w' b 37 .u64 (digs K 4 (mulP n n)) := by
 have hV := V.big
 have VV := hide V
 have hbs := R.lt
 have C1 := fun w V => Mul_any n n hn hn w V
 obtain ⟨a0, a1, a2, a3, ea, ea'⟩ := arr_open n
 obtain ⟨r0, r1, r2, r3, er, er'⟩ := arr_open (mulP n n)
 rw [ea', er'] at C1
 rw [ea] at R
 have EA := hide ea'
 have ER := hide er
 obtain ⟨c0, c1, c2, c3⟩ := R.four
 have C1' := hide C1
 have HR := hide R
 clear C1 ea ea' er er' V hn R
 go_enter Tryz.func138, Tryz.ntmps138
 go_wp2_with fail
 refine (C1'.out _ (VV.out.below (show Below w.heap.size w _ by repeat (first | exact Below.refl _ _ | refine new_below ?_ (Nat.le_refl _))) hV)).mono ?_
 rintro e w1 ⟨rfl, hb1⟩
 have q1 : Row w1 w.heap.size 37 .u64 [0, 0, 0, 0] := Row.below (by repeat (first | (refine Row.mk ?_ rfl; simp; done) | refine Row.alloc ?_ _)) hb1 (by simp; omega)
 have q2 : Row w1 (w.heap.size + 1) 37 .u64 [a0, a1, a2, a3] := Row.below (by repeat (first | (refine Row.mk ?_ rfl; simp; done) | refine Row.alloc ?_ _)) hb1 (by simp)
 have q3 : Row w1 b 37 .u64 [a0, a1, a2, a3] := Row.below (by repeat (first | exact HR.out | refine Row.alloc ?_ _)) hb1 (by simp; omega)
 have hO1 : Only b w w1 := ((Only.refl b w).new.new).step hb1 (by simp; omega)
 obtain ⟨z0, z1, z2, z3⟩ := q1.four
 have f1 := fun i => q1.free i
 obtain ⟨y0, y1, y2, y3⟩ := q2.four
 obtain ⟨x0, x1, x2, x3⟩ := q3.four
 have f3 := fun i => q3.free i
 have hne : ¬ (w.heap.size = b) := by omega
 have hne1 : ¬ (w.heap.size + 1 = b) := by omega
 have hne2 : ¬ (b = w.heap.size) := by omega
 have hne3 : ¬ (b = w.heap.size + 1) := by omega
 have Q3 := hide q3
 clear hb1 C1' q1 q2 q3 HR c0 c1 c2 c3
 go_wp2
 refine bodyPost_ret (v := .agg #[.int .u64 a0, .int .u64 a1, .int .u64 a2, .int .u64 a3]) (by simp [results, Tryz.results138, go_sem, z0, z1, z2, z3, hne, hne2]) rfl ⟨by rw [EA.out], ?_, ?_⟩
 ·repeat (first | refine Only.put ?_ (by omega) | exact hO1)
 ·rw [ER.out]
  have r := (((Q3.out.set 0 r0).set 1 r1).set 2 r2).set 3 r3
  repeat (first | refine Row.off ?_ (by omega) | exact r)
end Go.Proofs.YtefjnfeckenmkaaGreatDoor

namespace Go.Proofs.YtefjnfeckenmkaaGreatDoor
set_option maxHeartbeats 4000000
open Go.RowKit Num
theorem word_bit (e k m : Nat) (hm : m < 64) : e / K ^ k % K / 2 ^ m % 2 = e / 2 ^ (64 * k + m) % 2 := by
 have e2 : K = 2 ^ 64 := by decide
 have h1 : e / 2 ^ (64 * k + m) = e / K ^ k / 2 ^ m := by
  rw [Nat.div_div_eq_div_mul, e2, ← Nat.pow_mul, ← Nat.pow_add]
 rw [h1]
 generalize e / K ^ k = y
 have h3 : K = 2 ^ m * 2 ^ (64 - m) := by rw [e2, ← Nat.pow_add]; congr 1; omega
 rw [h3, Nat.mod_mul_right_div_self]
 have : (2 : Nat) ∣ 2 ^ (64 - m) := by
  obtain ⟨j, hj⟩ : ∃ j, 64 - m = j + 1 := ⟨63 - m, by omega⟩
  rw [hj, Nat.pow_succ]
  exact Nat.dvd_mul_left ..
 rw [Nat.mod_mod_of_dvd _ this]
theorem and_bit (x m : Nat) (hx : x < 18446744073709551616) : bits .and .u64 ((x : Int) / 2 ^ m) 1 = ((x / 2 ^ m % 2 : Nat) : Int) := by
 have e : ((x : Int) / 2 ^ m) = ((x / 2 ^ m : Nat) : Int) := by push_cast; rfl
 have h1 := bits_and_u64_nat (x / 2 ^ m) 1 (Nat.lt_of_le_of_lt (Nat.div_le_self _ _) hx) (by omega)
 rw [Nat.and_one_is_mod] at h1
 rw [e]
 exact h1
theorem index24 (c : Array Value) (k : Nat) (v : Value) (hk : k < 4) (h : c[k]? = some v) (w : World) : (Instr.index 35 (.agg c) (.int .i64 k)).run Tryz.prog w = .ok v w := by
 simp [Instr.index, go_sem, part, h]
 intro h4
 omega
theorem power_any (a e : Nat) (ha : a < P) (he : e < K ^ 4) (w : World) (V : Vars w) :
  Calls Tryz.prog 126 #[arr a, arr e] w fun r w' => r = .returned (arr (a ^ e % P)) ∧ Below w.heap.size w w' := by
 have hV := V.big
 have VV := hide V
 have C1 := fun w => Small_any 1 (by omega) w
 have e1 : arr 1 = .agg #[.int .u64 1, .int .u64 0, .int .u64 0, .int .u64 0] := rfl
 rw [e1] at C1
 obtain ⟨a0, a1, a2, a3, ea, ea'⟩ := arr_open a
 obtain ⟨x0, x1, x2, x3, ex, ex'⟩ := arr_open e
 have EA := hide ea
 have EX := hide ex
 have HA := hide ha
 have HE := hide he
 rw [ea', ex']
 have C1' := hide C1
 clear C1 e1 ea ea' ex ex' ha he V
 go_enter Tryz.func126, Tryz.ntmps126
 go_wp2_with fail
 refine (C1'.out _).mono ?_
 rintro r w1 ⟨rfl, hb1⟩
 have q0 : Row w1 (w.heap.size + 1) 35 .u64 [x0, x1, x2, x3] := Row.below (by repeat (first | (refine Row.mk ?_ rfl; simp; done) | refine Row.alloc ?_ _)) hb1 (by simp <;> omega)
 have q1 : Row w1 (w.heap.size + 1 + 1) 37 .u64 (digs K 4 0) := Row.below (by repeat (first | (refine Row.mk ?_ rfl; simp; done) | refine Row.alloc ?_ _)) hb1 (by simp <;> omega)
 have q2 : Row w1 (w.heap.size + 1 + 1 + 1) 37 .u64 [a0, a1, a2, a3] := Row.below (by repeat (first | (refine Row.mk ?_ rfl; simp; done) | refine Row.alloc ?_ _)) hb1 (by simp <;> omega)
 have hB1 : Below w.heap.size w w1 := (show Below w.heap.size w _ by repeat (first | exact Below.refl _ _ | refine new_below ?_ (Nat.le_refl _))).trans (hb1.mono (by simp; omega))
 have hs1 : w.heap.size + 1 + 1 + 1 < w1.heap.size := q2.lt
 obtain ⟨y0, y1, y2, y3⟩ := q0.four
 have Q1 := hide q1
 have Q2 := hide q2
 have hl1 : w.heap.size + 1 < w1.heap.size := by omega
 clear hb1 C1' q0 q1 q2
 go_wp2
 go_loopw [16] (fun i wr => ∃ k : Nat, k ≤ 4 ∧ i = .int .i64 k ∧ w1.heap.size < wr.heap.size ∧ Row wr (w.heap.size + 1 + 1) 37 .u64 (digs K 4 0) ∧ Row wr (w.heap.size + 1 + 1 + 1) 37 .u64 (digs K 4 (a ^ 2 ^ (64 * k) % P)) ∧ Row wr w1.heap.size 37 .u64 (digs K 4 (a ^ (e % 2 ^ (64 * k)) % P)) ∧ Below w.heap.size w wr) (fun i _ => 4 - (intOf i).toNat)
 case atStart =>
  refine ⟨0, by omega, rfl, by simp, Q1.out.alloc _, ?_, ?_, new_below hB1 (Nat.le_refl _)⟩
  ·have h : a ^ 2 ^ (64 * 0) % P = a := by rw [Nat.mul_zero, Nat.pow_zero, Nat.pow_one, Nat.mod_eq_of_lt HA.out]
   rw [h, EA.out]
   exact Q2.out.alloc _
  ·have h : a ^ (e % 2 ^ (64 * 0)) % P = 1 := by rw [Nat.mul_zero, Nat.pow_zero, Nat.mod_one, Nat.pow_zero]; decide
   rw [h]
   exact Row.mk rfl rfl
 case round =>
  clear Q1 Q2 hB1
  obtain ⟨k, hk, rfl, hsz, rr, rs, ro, hbel⟩ := hrel
  by_cases hlt : k < 4
  ·have hrr := hide rr
   have hrs := hide rs
   have hro := hide ro
   clear rr rs ro
   have hk0 : (0 : Int) ≤ (k : Int) := by omega
   have hk1 : (k : Int) < 4 := by omega
   obtain ⟨x, hx⟩ : ∃ x, x = e / K ^ k % K := ⟨_, rfl⟩
   have hi : (#[Value.int IntKind.u64 x0, Value.int IntKind.u64 x1, Value.int IntKind.u64 x2, Value.int IntKind.u64 x3] : Array Value)[k]? = some (.int .u64 x) := by
    have h := cl_get .u64 (digs K 4 e) k (by rw [digs_length]; exact hlt)
    rw [digs_get, EX.out, ← hx] at h
    exact h
   have HX := hide hx
   have hidx := fun w => index24 _ k _ hlt hi w
   have hxK : x < 18446744073709551616 := by rw [hx]; exact Nat.mod_lt _ (by decide)
   clear hx hi
   go_wp2
   go_loopw [19] (fun i wq => ∃ m : Nat, m ≤ 64 ∧ i = .int .i64 m ∧ w1.heap.size < wq.heap.size ∧ Row wq (w.heap.size + 1 + 1) 37 .u64 (digs K 4 0) ∧ Row wq (w.heap.size + 1 + 1 + 1) 37 .u64 (digs K 4 (a ^ 2 ^ (64 * k + m) % P)) ∧ Row wq w1.heap.size 37 .u64 (digs K 4 (a ^ (e % 2 ^ (64 * k + m)) % P)) ∧ Below w.heap.size w wq) (fun i _ => 64 - (intOf i).toNat)
   case atStart => exact ⟨0, by omega, rfl, hsz, hrr.out, hrs.out, hro.out, hbel⟩
   case round =>
    clear hrr hrs hro hbel hsz
    obtain ⟨m, hm, rfl, hsz, rr, rs, ro, hbel⟩ := hrel
    by_cases hlm : m < 64
    ·have hbit := hide (word_bit e k m hlm)
     rw [← HX.out] at hbit
     have hP1 := hide (pow_sq a (64 * k + m))
     have hP2 := hide (pow_bit a e (64 * k + m))
     obtain ⟨n, hn⟩ : ∃ n, n = a ^ 2 ^ (64 * k + m) % P := ⟨_, rfl⟩
     obtain ⟨o, ho⟩ : ∃ o, o = a ^ (e % 2 ^ (64 * k + m)) % P := ⟨_, rfl⟩
     have hnP : n < P := by rw [hn]; exact Nat.mod_lt _ P_pos
     have hoP : o < P := by rw [ho]; exact Nat.mod_lt _ P_pos
     rw [← hn] at rs hP1 hP2
     rw [← ho] at ro hP2
     have C1 := hide (next_any (w.heap.size + 1 + 1 + 1) n hnP wr (VV.out.below hbel hV) (by omega) rs)
     have hm0 : (0 : Int) ≤ (m : Int) := by omega
     have hm1 : (m : Int) < 64 := by omega
     clear hn ho
     obtain ⟨n0, n1, n2, n3, en, en'⟩ := arr_open n
     obtain ⟨o0, o1, o2, o3, eo, eo'⟩ := arr_open o
     rw [en'] at C1
     rw [eo] at ro
     have HRR := hide rr
     have HRO := hide ro
     have hml := hide hlm
     clear rr rs ro hlm
     go_wp2_with fail
     refine C1.out.mono ?_
     rintro r w2 ⟨rfl, hO, rs2⟩
     have rr2 := hide (hO.row HRR.out (by omega))
     have ro2 := hO.row HRO.out (by omega)
     have hB2 : Below w.heap.size w w2 := hbel.trans (hO.below (by omega) hbel.size)
     have hs2 : w1.heap.size < w2.heap.size := ro2.lt
     obtain ⟨c0, c1, c2, c3⟩ := ro2.four
     have f := fun i => ro2.free i
     have RO := hide ro2
     have RS := hide rs2
     have hand := and_bit x m hxK
     clear C1 hO HRR HRO ro2 rs2
     by_cases hbb : x / 2 ^ m % 2 = 1
     ·rw [hbb] at hand
      have hand1 : (bits BinOp.and IntKind.u64 ((x : Int) / 2 ^ m) 1 == 1) = true := by rw [hand]; rfl
      have hP2' := hide hP2.out
      rw [← hbit.out, if_pos hbb] at hP2'
      have C2 := fun w V => Mul_any o n hoP hnP w V
      obtain ⟨p0, p1, p2, p3, ep, ep'⟩ := arr_open (mulP o n)
      rw [eo', en', ep'] at C2
      have C2' := hide C2
      have EP := hide ep
      clear C2 hP2 hbit hbb hand ep ep' eo' en' eo en
      go_wp2_with fail
      refine (C2'.out _ (VV.out.below (new_below hB2 (Nat.le_refl _)) hV)).mono ?_
      rintro r w3 ⟨rfl, hb3⟩
      have ro3 : Row w3 w1.heap.size 37 .u64 [o0, o1, o2, o3] := Row.below (RO.out.alloc _) hb3 (by simp <;> omega)
      have rs3 := hide (Row.below (RS.out.alloc _) hb3 (by simp <;> omega))
      have rr3 := hide (Row.below (rr2.out.alloc _) hb3 (by simp <;> omega))
      have hB3 : Below w.heap.size w w3 := (new_below hB2 (Nat.le_refl _)).trans (hb3.mono (by simp <;> omega))
      obtain ⟨d0, d1, d2, d3⟩ := ro3.four
      have f3 := fun i => ro3.free i
      have RO3 := hide ro3
      clear hb3 C2' RO RS rr2 hB2 c0 c1 c2 c3 f ro3
      go_wp2
      go_roundw
      case rel =>
       have hm2 := hml.out
       have r := (((RO3.out.set 0 p0).set 1 p1).set 2 p2).set 3 p3
       refine ⟨m + 1, by omega, int_eq (by omega), by simp; exact RO3.out.lt, ?_, ?_, ?_, ?_⟩
       ·repeat (first | refine Row.off ?_ (by omega) | exact rr3.out)
       ·rw [← Nat.add_assoc, hP1.out]; repeat (first | refine Row.off ?_ (by omega) | exact rs3.out)
       ·rw [← Nat.add_assoc, hP2'.out]; show Row _ _ _ _ (digs K 4 (mulP o n)); rw [EP.out]; exact r
       ·repeat (first | refine put_below ?_ (by omega) | exact hB3)
      case measure => have := hml.out; simp [intOf]; omega
     ·have hb0 : x / 2 ^ m % 2 = 0 := by omega
      rw [hb0] at hand
      have hand1 : (bits BinOp.and IntKind.u64 ((x : Int) / 2 ^ m) 1 == 1) = false := by rw [hand]; rfl
      have hP2' := hide hP2.out
      rw [← hbit.out, if_neg hbb] at hP2'
      have EO := hide eo
      clear hP2 hbit hbb hb0 hand en' eo' en eo
      go_wp2
      go_roundw
      case rel =>
       have hm2 := hml.out
       refine ⟨m + 1, by omega, int_eq (by omega), by simp; omega, rr2.out.alloc _, ?_, ?_, new_below hB2 (Nat.le_refl _)⟩
       ·rw [← Nat.add_assoc, hP1.out]; exact RS.out.alloc _
       ·rw [← Nat.add_assoc, hP2'.out, EO.out]; exact RO.out.alloc _
      case measure => have := hml.out; simp [intOf]; omega
    ·have hm4 : m = 64 := by omega
     subst hm4
     have hrr := hide rr
     have hrs := hide rs
     have hro := hide ro
     clear rr rs ro
     go_wp2
     go_roundw
     case rel =>
      refine ⟨k + 1, by omega, int_eq (by omega), hsz, hrr.out, ?_, ?_, hbel⟩
      ·rw [show 64 * (k + 1) = 64 * k + 64 by omega]; exact hrs.out
      ·rw [show 64 * (k + 1) = 64 * k + 64 by omega]; exact hro.out
     case measure => simp [intOf]; omega
  ·have hk4 : k = 4 := by omega
   subst hk4
   have h256 : e % 2 ^ (64 * 4) = e := Nat.mod_eq_of_lt (Nat.lt_of_lt_of_le HE.out (by decide))
   rw [h256] at ro
   obtain ⟨r0, r1, r2, r3, er, er'⟩ := arr_open (a ^ e % P)
   rw [er] at ro
   have ER := hide er'
   obtain ⟨c0, c1, c2, c3⟩ := ro.four
   obtain ⟨z0, z1, z2, z3⟩ := rr.four
   have f := fun i => rr.free i
   clear rr rs ro er er' h256
   go_wp2
   refine bodyPost_ret (v := .agg #[.int .u64 r0, .int .u64 r1, .int .u64 r2, .int .u64 r3]) (by simp [results, Tryz.results126, go_sem, z0, z1, z2, z3]) rfl ⟨by rw [ER.out], ?_⟩
   repeat (first | refine put_below ?_ (by omega) | refine new_below ?_ (Nat.le_refl _) | exact hbel)
end Go.Proofs.YtefjnfeckenmkaaGreatDoor

namespace Go.Proofs.YtefjnfeckenmkaaGreatDoor
set_option maxHeartbeats 4000000
open Go.RowKit Num
set_option linter.unusedSimpArgs false
theorem Inv_any (a : Nat) (ha : a < P) (w : World) (V : Vars w) :
  Calls Tryz.prog 94 #[arr a] w fun e w' => e = .returned (arr (invE a)) ∧ Below w.heap.size w w' := by
 have hV := V.big
 have h3 : 2 < w.heap.size := by omega
 have h0 : 1 < w.heap.size := by omega
 have hy0 : ¬ (0 = w.heap.size) := by omega
 have hx0 : ¬ (w.heap.size = 0) := by omega
 have hv0 : 0 < w.heap.size := by omega
 have hy1 : ¬ (1 = w.heap.size) := by omega
 have hx1 : ¬ (w.heap.size = 1) := by omega
 have hv1 : 1 < w.heap.size := by omega
 have hy2 : ¬ (2 = w.heap.size) := by omega
 have hx2 : ¬ (w.heap.size = 2) := by omega
 have hv2 : 2 < w.heap.size := by omega
 have hy3 : ¬ (3 = w.heap.size) := by omega
 have hx3 : ¬ (w.heap.size = 3) := by omega
 have hv3 : 3 < w.heap.size := by omega
 have hy4 : ¬ (4 = w.heap.size) := by omega
 have hx4 : ¬ (w.heap.size = 4) := by omega
 have hv4 : 4 < w.heap.size := by omega
 have hy5 : ¬ (5 = w.heap.size) := by omega
 have hx5 : ¬ (w.heap.size = 5) := by omega
 have hv5 : 5 < w.heap.size := by omega
 have hy6 : ¬ (6 = w.heap.size) := by omega
 have hx6 : ¬ (w.heap.size = 6) := by omega
 have hv6 : 6 < w.heap.size := by omega
 have hy7 : ¬ (7 = w.heap.size) := by omega
 have hx7 : ¬ (w.heap.size = 7) := by omega
 have hv7 : 7 < w.heap.size := by omega
 have hy8 : ¬ (8 = w.heap.size) := by omega
 have hx8 : ¬ (w.heap.size = 8) := by omega
 have hv8 : 8 < w.heap.size := by omega
 have hz : ¬ (w.heap.size = 0) := by omega
 have hz1 : ¬ (1 = w.heap.size) := by omega
 have hz2 : ¬ (2 = w.heap.size) := by omega
 have C1 := fun w V => power_any a (P - 2) ha (by decide) w V
 obtain ⟨a0, a1, a2, a3, ea, ea'⟩ := arr_open a
 obtain ⟨x0, x1, x2, x3, ex, ex'⟩ := arr_open (P - 2)
 obtain ⟨r0, r1, r2, r3, er, er'⟩ := arr_open (a ^ (P - 2) % P)
 obtain ⟨g0, g1, g2, g3⟩ := V.i.four ex
 rw [ea', ex', er'] at C1
 rw [ea']
 have ER : Hid (arr (invE a) = _) := er'
 have C1' := hide C1
 have VV := hide V
 clear C1 ea ea' er er' ex ex' V
 go_enter Tryz.func94, Tryz.ntmps94
 go_wp2_with fail
 refine (C1'.out _ (VV.out.below (show Below w.heap.size w _ by repeat (first | exact Below.refl _ _ | refine new_below ?_ (Nat.le_refl _))) hV)).mono ?_
 rintro e w1 ⟨rfl, hb1⟩
 have q1 : Row w1 (w.heap.size + 1) 37 .u64 [0, 0, 0, 0] := Row.below (by repeat (first | (refine Row.mk ?_ rfl; simp; done) | refine Row.alloc ?_ _)) hb1 (by simp)
 have hB1 : Below w.heap.size w w1 := (show Below w.heap.size w _ by repeat (first | exact Below.refl _ _ | refine new_below ?_ (Nat.le_refl _))).trans (hb1.mono (by simp; omega))
 obtain ⟨z0, z1, z2, z3⟩ := q1.four
 have f := fun i => q1.free i
 clear hb1 C1' q1 g0 g1 g2 g3
 go_wp2
 refine bodyPost_ret (v := .agg #[.int .u64 r0, .int .u64 r1, .int .u64 r2, .int .u64 r3]) (by simp [results, Tryz.results94, go_sem, z0, z1, z2, z3]) rfl ⟨by rw [ER.out], ?_⟩
 repeat (first | refine put_below ?_ (by omega) | refine new_below ?_ (Nat.le_refl _) | exact hB1)
def two (o : Option Nat) : Value := match o with
 | some r => .tuple #[arr r, .bool true]
 | none => .tuple #[arr 0, .bool false]
def RS (w : World) (q : Nat) (b a : List Nat) (w' : World) : Prop := Row w' q 37 .u64 b ∧ Row w' w.heap.size 37 .u64 a ∧ Row w' (w.heap.size + 1) 37 .u64 [0, 0, 0, 0] ∧ Below w.heap.size w w'
theorem RS.step {w w1 w2 : World} {q : Nat} {b a : List Nat} (h : RS w q b a w1) (hb : Below w1.heap.size w1 w2) : RS w q b a w2 :=
 ⟨h.1.below hb h.1.lt, h.2.1.below hb h.2.1.lt, h.2.2.1.below hb h.2.2.1.lt, h.2.2.2.trans (hb.mono h.2.2.2.size)⟩
theorem RS.drew {w w1 : World} {q : Nat} {b a : List Nat} (h : RS w q b a w1) : RS w q b a w1.drew := ⟨h.1, h.2.1, h.2.2.1, h.2.2.2.drew⟩
theorem RS.cells {w w' : World} {q b0 b1 b2 b3 a0 a1 a2 a3 : Nat} (h : RS w q [b0, b1, b2, b3] [a0, a1, a2, a3] w') :
  (w'.cell? ⟨q, 0, none⟩ = some (.int .u64 b0) ∧ w'.cell? ⟨q, 1, none⟩ = some (.int .u64 b1) ∧ w'.cell? ⟨q, 2, none⟩ = some (.int .u64 b2) ∧ w'.cell? ⟨q, 3, none⟩ = some (.int .u64 b3)) ∧
  (w'.cell? ⟨w.heap.size, 0, none⟩ = some (.int .u64 a0) ∧ w'.cell? ⟨w.heap.size, 1, none⟩ = some (.int .u64 a1) ∧ w'.cell? ⟨w.heap.size, 2, none⟩ = some (.int .u64 a2) ∧ w'.cell? ⟨w.heap.size, 3, none⟩ = some (.int .u64 a3)) ∧ RS w q [b0, b1, b2, b3] [a0, a1, a2, a3] w' :=
 ⟨h.1.four, h.2.1.four, h⟩
theorem RS.keep {w w1 w2 : World} {q b0 b1 b2 b3 a0 a1 a2 a3 : Nat} (hb : Below w1.heap.size w1 w2)
  (h : (w1.cell? ⟨q, 0, none⟩ = some (.int .u64 b0) ∧ w1.cell? ⟨q, 1, none⟩ = some (.int .u64 b1) ∧ w1.cell? ⟨q, 2, none⟩ = some (.int .u64 b2) ∧ w1.cell? ⟨q, 3, none⟩ = some (.int .u64 b3)) ∧
  (w1.cell? ⟨w.heap.size, 0, none⟩ = some (.int .u64 a0) ∧ w1.cell? ⟨w.heap.size, 1, none⟩ = some (.int .u64 a1) ∧ w1.cell? ⟨w.heap.size, 2, none⟩ = some (.int .u64 a2) ∧ w1.cell? ⟨w.heap.size, 3, none⟩ = some (.int .u64 a3)) ∧ RS w q [b0, b1, b2, b3] [a0, a1, a2, a3] w1) :
  (w2.cell? ⟨q, 0, none⟩ = some (.int .u64 b0) ∧ w2.cell? ⟨q, 1, none⟩ = some (.int .u64 b1) ∧ w2.cell? ⟨q, 2, none⟩ = some (.int .u64 b2) ∧ w2.cell? ⟨q, 3, none⟩ = some (.int .u64 b3)) ∧
  (w2.cell? ⟨w.heap.size, 0, none⟩ = some (.int .u64 a0) ∧ w2.cell? ⟨w.heap.size, 1, none⟩ = some (.int .u64 a1) ∧ w2.cell? ⟨w.heap.size, 2, none⟩ = some (.int .u64 a2) ∧ w2.cell? ⟨w.heap.size, 3, none⟩ = some (.int .u64 a3)) ∧ RS w q [b0, b1, b2, b3] [a0, a1, a2, a3] w2 := (h.2.2.step hb).cells
theorem RS.keepD {w w1 : World} {q b0 b1 b2 b3 a0 a1 a2 a3 : Nat}
  (h : (w1.cell? ⟨q, 0, none⟩ = some (.int .u64 b0) ∧ w1.cell? ⟨q, 1, none⟩ = some (.int .u64 b1) ∧ w1.cell? ⟨q, 2, none⟩ = some (.int .u64 b2) ∧ w1.cell? ⟨q, 3, none⟩ = some (.int .u64 b3)) ∧
  (w1.cell? ⟨w.heap.size, 0, none⟩ = some (.int .u64 a0) ∧ w1.cell? ⟨w.heap.size, 1, none⟩ = some (.int .u64 a1) ∧ w1.cell? ⟨w.heap.size, 2, none⟩ = some (.int .u64 a2) ∧ w1.cell? ⟨w.heap.size, 3, none⟩ = some (.int .u64 a3)) ∧ RS w q [b0, b1, b2, b3] [a0, a1, a2, a3] w1) :
  (w1.drew.cell? ⟨q, 0, none⟩ = some (.int .u64 b0) ∧ w1.drew.cell? ⟨q, 1, none⟩ = some (.int .u64 b1) ∧ w1.drew.cell? ⟨q, 2, none⟩ = some (.int .u64 b2) ∧ w1.drew.cell? ⟨q, 3, none⟩ = some (.int .u64 b3)) ∧
  (w1.drew.cell? ⟨w.heap.size, 0, none⟩ = some (.int .u64 a0) ∧ w1.drew.cell? ⟨w.heap.size, 1, none⟩ = some (.int .u64 a1) ∧ w1.drew.cell? ⟨w.heap.size, 2, none⟩ = some (.int .u64 a2) ∧ w1.drew.cell? ⟨w.heap.size, 3, none⟩ = some (.int .u64 a3)) ∧ RS w q [b0, b1, b2, b3] [a0, a1, a2, a3] w1.drew := h.2.2.drew.cells
theorem RS.vars {w w1 : World} {q : Nat} {b a : List Nat} {p r : Prop} (h : p ∧ r ∧ RS w q b a w1) (V : Vars w) : Vars w1 := V.below h.2.2.2.2.2 V.big
theorem Root_any (a : Nat) (ha : a < P) (w : World) (V : Vars w) :
  Calls Tryz.prog 104 #[arr a] w fun e w' => e = .returned (two (rootP a)) ∧ Below w.heap.size w w' := by
 have hV := V.big
 have h0 : 1 < w.heap.size := by omega
 have hy0 : ¬ (0 = w.heap.size) := by omega
 have hx0 : ¬ (w.heap.size = 0) := by omega
 have hv0 : 0 < w.heap.size := by omega
 have hy1 : ¬ (1 = w.heap.size) := by omega
 have hx1 : ¬ (w.heap.size = 1) := by omega
 have hv1 : 1 < w.heap.size := by omega
 have hy2 : ¬ (2 = w.heap.size) := by omega
 have hx2 : ¬ (w.heap.size = 2) := by omega
 have hv2 : 2 < w.heap.size := by omega
 have hy3 : ¬ (3 = w.heap.size) := by omega
 have hx3 : ¬ (w.heap.size = 3) := by omega
 have hv3 : 3 < w.heap.size := by omega
 have hy4 : ¬ (4 = w.heap.size) := by omega
 have hx4 : ¬ (w.heap.size = 4) := by omega
 have hv4 : 4 < w.heap.size := by omega
 have hy5 : ¬ (5 = w.heap.size) := by omega
 have hx5 : ¬ (w.heap.size = 5) := by omega
 have hv5 : 5 < w.heap.size := by omega
 have hy6 : ¬ (6 = w.heap.size) := by omega
 have hx6 : ¬ (w.heap.size = 6) := by omega
 have hv6 : 6 < w.heap.size := by omega
 have hy7 : ¬ (7 = w.heap.size) := by omega
 have hx7 : ¬ (w.heap.size = 7) := by omega
 have hv7 : 7 < w.heap.size := by omega
 have hy8 : ¬ (8 = w.heap.size) := by omega
 have hx8 : ¬ (w.heap.size = 8) := by omega
 have hv8 : 8 < w.heap.size := by omega
 have h1 : 5 < w.heap.size := by omega
 have h2 : 6 < w.heap.size := by omega
 have C1 := fun w V => power_any a eighth ha (by decide) w V
 have hb0P := try0_lt a
 obtain ⟨b, hbe⟩ : ∃ b, b = try0 a := ⟨_, rfl⟩
 have C1e : a ^ eighth % P = b := hbe.symm
 rw [C1e] at C1
 rw [← hbe] at hb0P
 have CM := fun w V => Mul_any b b hb0P hb0P w V
 have CS := fun w => Same_any (mulP b b) a (Nat.lt_trans (mulP_lt b b) P_lt) (Nat.lt_trans ha P_lt) w
 obtain ⟨a0, a1, a2, a3, ea, ea'⟩ := arr_open a
 obtain ⟨b0, b1, b2, b3, eb, eb'⟩ := arr_open b
 obtain ⟨m0, m1, m2, m3, em, em'⟩ := arr_open (mulP b b)
 obtain ⟨x0, x1, x2, x3, ex, ex'⟩ := arr_open eighth
 obtain ⟨i0, i1, i2, i3, ei, ei'⟩ := arr_open rootI
 obtain ⟨g0, g1, g2, g3⟩ := V.r.four ex
 obtain ⟨k0, k1, k2, k3⟩ := V.m.four ei
 rw [ea', ex', eb'] at C1
 rw [eb', em'] at CM
 rw [em', ea'] at CS
 rw [ea']
 have C1' := hide C1
 have CM' := hide CM
 have CS' := hide CS
 have VV := hide V
 have HBE := hide hbe
 clear C1 CM CS V C1e em em' ex ex' hbe
 go_enter Tryz.func104, Tryz.ntmps104
 go_wp2_with fail
 refine (C1'.out _ (VV.out.below (show Below w.heap.size w _ by repeat (first | exact Below.refl _ _ | refine new_below ?_ (Nat.le_refl _))) hV)).mono ?_
 rintro e w1 ⟨rfl, hb1⟩
 have qa : Row w1 w.heap.size 37 .u64 [a0, a1, a2, a3] := Row.below (by repeat (first | (refine Row.mk ?_ rfl; simp; done) | refine Row.alloc ?_ _)) hb1 (by simp <;> omega)
 have qz : Row w1 (w.heap.size + 1) 37 .u64 [0, 0, 0, 0] := Row.below (by repeat (first | (refine Row.mk ?_ rfl; simp; done) | refine Row.alloc ?_ _)) hb1 (by simp <;> omega)
 have hB1 : Below w.heap.size w w1 := (show Below w.heap.size w _ by repeat (first | exact Below.refl _ _ | refine new_below ?_ (Nat.le_refl _))).trans (hb1.mono (by simp; omega))
 have hs1 : w.heap.size + 1 < w1.heap.size := qz.lt
 have R1 : RS w w1.heap.size [b0, b1, b2, b3] [a0, a1, a2, a3] (w1.alloc (.cells #[.int .u64 b0, .int .u64 b1, .int .u64 b2, .int .u64 b3] 37)) := ⟨Row.mk rfl rfl, qa.alloc _, qz.alloc _, new_below hB1 (Nat.le_refl _)⟩
 have R1' := hide R1
 clear hb1 C1' qa qz g0 g1 g2 g3 hB1 R1
 generalize hq : w1.heap.size = q at *
 go_wp2_with fail
 generalize w1.alloc (.cells #[.int .u64 b0, .int .u64 b1, .int .u64 b2, .int .u64 b3] 37) = wx at *
 go_region_held3 (fun w' => (w'.cell? ⟨q, 0, none⟩ = some (.int .u64 b0) ∧ w'.cell? ⟨q, 1, none⟩ = some (.int .u64 b1) ∧ w'.cell? ⟨q, 2, none⟩ = some (.int .u64 b2) ∧ w'.cell? ⟨q, 3, none⟩ = some (.int .u64 b3)) ∧
  (w'.cell? ⟨w.heap.size, 0, none⟩ = some (.int .u64 a0) ∧ w'.cell? ⟨w.heap.size, 1, none⟩ = some (.int .u64 a1) ∧ w'.cell? ⟨w.heap.size, 2, none⟩ = some (.int .u64 a2) ∧ w'.cell? ⟨w.heap.size, 3, none⟩ = some (.int .u64 a3)) ∧ RS w q [b0, b1, b2, b3] [a0, a1, a2, a3] w')
  (first | exact RS.keep hb (by assumption) | exact RS.keepD (by assumption) | exact R1'.out.cells | exact R1'.out.drew.cells)
  (first
   | (go_at_call 90; refine (CM'.out _ (RS.vars (by assumption) VV.out)).mono ?_; rintro e w3 ⟨rfl, hb⟩)
   | (go_at_call 69; refine (CS'.out _).mono ?_; rintro e w3 ⟨rfl, hb⟩))
 have R3 : RS w q [b0, b1, b2, b3] [a0, a1, a2, a3] w3 := RS.step (RS.step R1'.out.drew (by assumption)) (by assumption)
 have hqw : w.heap.size + 1 < q := by omega
 have hnq : ¬ (w.heap.size + 1 = q) := by omega
 have hnq2 : ¬ (q = w.heap.size + 1) := by omega
 have R3' := hide R3
 clear R3
 by_cases hs : mulP b b = a
 ·have hs1 : decide (mulP b b = a) = true := decide_eq_true hs
  have HR : Hid (rootP a = some (if b % 2 = 1 then negP b else b)) := by
   show _ = _
   have hB : rootB a = b := by unfold rootB; rw [← HBE.out]; exact if_pos hs
   unfold rootP
   rw [hB]
   exact if_pos hs
  rw [hs1]
  go_wp2_with fail
  go_region_held3 (fun w' => (w'.cell? ⟨q, 0, none⟩ = some (.int .u64 b0) ∧ w'.cell? ⟨q, 1, none⟩ = some (.int .u64 b1) ∧ w'.cell? ⟨q, 2, none⟩ = some (.int .u64 b2) ∧ w'.cell? ⟨q, 3, none⟩ = some (.int .u64 b3)) ∧
   (w'.cell? ⟨w.heap.size, 0, none⟩ = some (.int .u64 a0) ∧ w'.cell? ⟨w.heap.size, 1, none⟩ = some (.int .u64 a1) ∧ w'.cell? ⟨w.heap.size, 2, none⟩ = some (.int .u64 a2) ∧ w'.cell? ⟨w.heap.size, 3, none⟩ = some (.int .u64 a3)) ∧ RS w q [b0, b1, b2, b3] [a0, a1, a2, a3] w')
   (first | exact RS.keep hb (by assumption) | exact RS.keepD (by assumption) | exact R3'.out.cells | exact R3'.out.drew.cells)
   (first
    | (go_at_call 90; refine (CM'.out _ (RS.vars (by assumption) VV.out)).mono ?_; rintro e w3 ⟨rfl, hb⟩)
    | (go_at_call 69; refine (CS'.out _).mono ?_; rintro e w3 ⟨rfl, hb⟩))
  obtain ⟨w5, hw5⟩ : ∃ w5, w5 = w3 := ⟨_, rfl⟩
  have R5 : Hid (RS w q [b0, b1, b2, b3] [a0, a1, a2, a3] w5) := by rw [hw5]; exact RS.step (RS.step R3'.out.drew (by assumption)) (by assumption)
  rw [← hw5]
  clear hw5 CM' CS' R3' R1' k0 k1 k2 k3
  have CO := hide (Odd_any b w5)
  rw [eb'] at CO
  have CN := fun w V => Neg_any b hb0P w V
  obtain ⟨n0, n1, n2, n3, en, en'⟩ := arr_open (negP b)
  rw [eb', en'] at CN
  have CN' := hide CN
  have EN := hide en'
  have EX := hide eb'
  obtain ⟨⟨c0, c1, c2, c3⟩, -, -⟩ := R5.out.cells
  clear CN en en'
  go_wp2_with fail
  refine CO.out.mono ?_
  rintro e w6 ⟨rfl, hb6⟩
  have R6 := hide (R5.out.step hb6)
  have hs6 : q < w6.heap.size := R6.out.1.lt
  obtain ⟨⟨d0, d1, d2, d3⟩, -, -⟩ := R6.out.cells
  obtain ⟨z0, z1, z2, z3⟩ := R6.out.2.2.1.four
  have fz := fun i => R6.out.2.2.1.free i
  have fq := fun i => R6.out.1.free i
  have hB6 := R6.out.2.2.2
  clear c0 c1 c2 c3 CO hb6 R5
  by_cases ho : b % 2 = 1
  ·have ho1 : decide (b % 2 = 1) = true := decide_eq_true ho
   rw [ho1]
   go_wp2_with fail
   refine (CN'.out _ (VV.out.below hB6 hV)).mono ?_
   rintro e w7 ⟨rfl, hb7⟩
   have R7 := hide (R6.out.step hb7)
   obtain ⟨⟨p0, p1, p2, p3⟩, -, -⟩ := R7.out.cells
   obtain ⟨y0, y1, y2, y3⟩ := R7.out.2.2.1.four
   have gz := fun i => R7.out.2.2.1.free i
   have gq := fun i => R7.out.1.free i
   have hB7 := R7.out.2.2.2
   clear d0 d1 d2 d3 z0 z1 z2 z3 fz fq hB6 hb7 CN' R6
   go_wp2
   refine bodyPost_ret (v := .tuple #[.agg #[.int .u64 n0, .int .u64 n1, .int .u64 n2, .int .u64 n3], .bool true]) (by simp [results, Tryz.results104, go_sem, y0, y1, y2, y3, hnq, hnq2]) rfl ⟨by rw [HR.out, if_pos ho]; show _ = Ending.returned (.tuple #[arr (negP b), .bool true]); rw [EN.out], ?_⟩
   repeat (first | refine put_below ?_ (by omega) | refine new_below ?_ (Nat.le_refl _) | exact hB7)
  ·have ho1 : decide (b % 2 = 1) = false := decide_eq_false ho
   rw [ho1]
   clear CN'
   go_wp2
   refine bodyPost_ret (v := .tuple #[.agg #[.int .u64 b0, .int .u64 b1, .int .u64 b2, .int .u64 b3], .bool true]) (by simp [results, Tryz.results104, go_sem, z0, z1, z2, z3, hnq, hnq2]) rfl ⟨by rw [HR.out, if_neg ho]; show _ = Ending.returned (.tuple #[arr b, .bool true]); rw [EX.out], ?_⟩
   repeat (first | refine put_below ?_ (by omega) | refine new_below ?_ (Nat.le_refl _) | exact hB6)
 ·have hs1 : decide (mulP b b = a) = false := decide_eq_false hs
  have C3 := fun w V => Mul_any b rootI hb0P (by decide) w V
  obtain ⟨c, hce⟩ : ∃ c, c = try1 a := ⟨_, rfl⟩
  have e3 : mulP b rootI = c := by rw [hce, HBE.out]; rfl
  have hcP : c < P := by rw [hce]; exact try1_lt a
  obtain ⟨c0, c1, c2, c3, ec, ec'⟩ := arr_open c
  rw [e3, eb', ei', ec'] at C3
  have C3' := hide C3
  have CM2 := fun w V => Mul_any c c hcP hcP w V
  have CS2 := fun w => Same_any (mulP c c) a (Nat.lt_trans (mulP_lt c c) P_lt) (Nat.lt_trans ha P_lt) w
  obtain ⟨j0, j1, j2, j3, ej, ej'⟩ := arr_open (mulP c c)
  rw [ec', ej'] at CM2
  rw [ej', ea'] at CS2
  have CM2' := hide CM2
  have CS2' := hide CS2
  have hB : Hid (rootB a = c) := by
   show _ = _
   unfold rootB
   rw [← HBE.out, hce]
   exact if_neg hs
  obtain ⟨⟨l0, l1, l2, l3⟩, -, -⟩ := R3'.out.cells
  have k0' := (R3'.out.2.2.2.cell (p := ⟨6, 0, none⟩) h2).trans k0
  have k1' := (R3'.out.2.2.2.cell (p := ⟨6, 1, none⟩) h2).trans k1
  have k2' := (R3'.out.2.2.2.cell (p := ⟨6, 2, none⟩) h2).trans k2
  have k3' := (R3'.out.2.2.2.cell (p := ⟨6, 3, none⟩) h2).trans k3
  rw [hs1]
  clear CM2 CS2 C3 k0 k1 k2 k3 CM' CS' ej ej' e3 hce R1' HBE
  go_wp2_with fail
  refine (C3'.out _ (VV.out.below R3'.out.2.2.2 hV)).mono ?_
  rintro e w4 ⟨rfl, hb4⟩
  have R4 := R3'.out.step hb4
  obtain ⟨⟨o0, o1, o2, o3⟩, -, -⟩ := R4.cells
  have fq4 := fun i => R4.1.free i
  have R4' : Hid (RS w q [c0, c1, c2, c3] [a0, a1, a2, a3] ((((w4.setCell ⟨q, 0, none⟩ (.int .u64 c0)).setCell ⟨q, 1, none⟩ (.int .u64 c1)).setCell ⟨q, 2, none⟩ (.int .u64 c2)).setCell ⟨q, 3, none⟩ (.int .u64 c3))) :=
   ⟨(((R4.1.set 0 c0).set 1 c1).set 2 c2).set 3 c3, (((R4.2.1.off (by omega)).off (by omega)).off (by omega)).off (by omega), (((R4.2.2.1.off (by omega)).off (by omega)).off (by omega)).off (by omega), put_below (put_below (put_below (put_below R4.2.2.2 (by omega)) (by omega)) (by omega)) (by omega)⟩
  clear C3' k0' k1' k2' k3' l0 l1 l2 l3 R3' hb4 R4
  go_wp2_with fail
  clear o0 o1 o2 o3 fq4
  generalize (((w4.setCell ⟨q, 0, none⟩ (.int .u64 c0)).setCell ⟨q, 1, none⟩ (.int .u64 c1)).setCell ⟨q, 2, none⟩ (.int .u64 c2)).setCell ⟨q, 3, none⟩ (.int .u64 c3) = wy at *
  go_region_held3 (fun w' => (w'.cell? ⟨q, 0, none⟩ = some (.int .u64 c0) ∧ w'.cell? ⟨q, 1, none⟩ = some (.int .u64 c1) ∧ w'.cell? ⟨q, 2, none⟩ = some (.int .u64 c2) ∧ w'.cell? ⟨q, 3, none⟩ = some (.int .u64 c3)) ∧
   (w'.cell? ⟨w.heap.size, 0, none⟩ = some (.int .u64 a0) ∧ w'.cell? ⟨w.heap.size, 1, none⟩ = some (.int .u64 a1) ∧ w'.cell? ⟨w.heap.size, 2, none⟩ = some (.int .u64 a2) ∧ w'.cell? ⟨w.heap.size, 3, none⟩ = some (.int .u64 a3)) ∧ RS w q [c0, c1, c2, c3] [a0, a1, a2, a3] w')
   (first | exact RS.keep hb (by assumption) | exact RS.keepD (by assumption) | exact R4'.out.cells | exact R4'.out.drew.cells)
   (first
    | (go_at_call 90; refine (CM2'.out _ (RS.vars (by assumption) VV.out)).mono ?_; rintro e w3 ⟨rfl, hb⟩)
    | (go_at_call 69; refine (CS2'.out _).mono ?_; rintro e w3 ⟨rfl, hb⟩))
  obtain ⟨w5, hw5⟩ : ∃ w5, w5 = w3 := ⟨_, rfl⟩
  have R5 : Hid (RS w q [c0, c1, c2, c3] [a0, a1, a2, a3] w5) := by rw [hw5]; exact RS.step (RS.step R4'.out.drew (by assumption)) (by assumption)
  rw [← hw5]
  clear hw5 CM2' CS2' R4'
  by_cases hs2 : mulP c c = a
  ·have hs3 : decide (mulP c c = a) = true := decide_eq_true hs2
   have HR : Hid (rootP a = some (if c % 2 = 1 then negP c else c)) := by
    show _ = _
    unfold rootP
    rw [hB.out]
    exact if_pos hs2
   rw [hs3]
   have CO := hide (Odd_any c w5)
   rw [ec'] at CO
   have CN := fun w V => Neg_any c hcP w V
   obtain ⟨n0, n1, n2, n3, en, en'⟩ := arr_open (negP c)
   rw [ec', en'] at CN
   have CN' := hide CN
   have EN := hide en'
   have EX := hide ec'
   obtain ⟨⟨l0, l1, l2, l3⟩, -, -⟩ := R5.out.cells
   clear CN en en'
   go_wp2_with fail
   refine CO.out.mono ?_
   rintro e w6 ⟨rfl, hb6⟩
   have R6 := hide (R5.out.step hb6)
   have hs6 : q < w6.heap.size := R6.out.1.lt
   obtain ⟨⟨d0, d1, d2, d3⟩, -, -⟩ := R6.out.cells
   obtain ⟨z0, z1, z2, z3⟩ := R6.out.2.2.1.four
   have fz := fun i => R6.out.2.2.1.free i
   have fq := fun i => R6.out.1.free i
   have hB6 := R6.out.2.2.2
   clear l0 l1 l2 l3 CO hb6 R5
   by_cases ho : c % 2 = 1
   ·have ho1 : decide (c % 2 = 1) = true := decide_eq_true ho
    rw [ho1]
    go_wp2_with fail
    refine (CN'.out _ (VV.out.below hB6 hV)).mono ?_
    rintro e w7 ⟨rfl, hb7⟩
    have R7 := hide (R6.out.step hb7)
    obtain ⟨⟨p0, p1, p2, p3⟩, -, -⟩ := R7.out.cells
    obtain ⟨y0, y1, y2, y3⟩ := R7.out.2.2.1.four
    have gz := fun i => R7.out.2.2.1.free i
    have gq := fun i => R7.out.1.free i
    have hB7 := R7.out.2.2.2
    clear d0 d1 d2 d3 z0 z1 z2 z3 fz fq hB6 hb7 CN' R6
    go_wp2
    refine bodyPost_ret (v := .tuple #[.agg #[.int .u64 n0, .int .u64 n1, .int .u64 n2, .int .u64 n3], .bool true]) (by simp [results, Tryz.results104, go_sem, y0, y1, y2, y3, hnq, hnq2]) rfl ⟨by rw [HR.out, if_pos ho]; show _ = Ending.returned (.tuple #[arr (negP c), .bool true]); rw [EN.out], ?_⟩
    repeat (first | refine put_below ?_ (by omega) | refine new_below ?_ (Nat.le_refl _) | exact hB7)
   ·have ho1 : decide (c % 2 = 1) = false := decide_eq_false ho
    rw [ho1]
    clear CN'
    go_wp2
    refine bodyPost_ret (v := .tuple #[.agg #[.int .u64 c0, .int .u64 c1, .int .u64 c2, .int .u64 c3], .bool true]) (by simp [results, Tryz.results104, go_sem, z0, z1, z2, z3, hnq, hnq2]) rfl ⟨by rw [HR.out, if_neg ho]; show _ = Ending.returned (.tuple #[arr c, .bool true]); rw [EX.out], ?_⟩
    repeat (first | refine put_below ?_ (by omega) | refine new_below ?_ (Nat.le_refl _) | exact hB6)
  ·have hs3 : decide (mulP c c = a) = false := decide_eq_false hs2
   have HR : Hid (rootP a = none) := by
    show _ = _
    unfold rootP
    rw [hB.out]
    exact if_neg hs2
   rw [hs3]
   obtain ⟨z0, z1, z2, z3⟩ := R5.out.2.2.1.four
   have fz := fun i => R5.out.2.2.1.free i
   have hB5 := R5.out.2.2.2
   clear R5
   go_wp2
   refine bodyPost_ret (v := .tuple #[.agg #[.int .u64 0, .int .u64 0, .int .u64 0, .int .u64 0], .bool false]) (by simp [results, Tryz.results104, go_sem, z0, z1, z2, z3]) rfl ⟨by rw [HR.out]; rfl, ?_⟩
   repeat (first | refine put_below ?_ (by omega) | refine new_below ?_ (Nat.le_refl _) | exact hB5)
end Go.Proofs.YtefjnfeckenmkaaGreatDoor

namespace Go.Proofs.YtefjnfeckenmkaaGreatDoor
set_option maxHeartbeats 2000000
open Go.RowKit Num
def bts (s : ByteArray) : List Nat := s.data.toList.map (·.toNat)
def numS (s : ByteArray) : Nat := num 256 (bts s)
theorem bts_length (s : ByteArray) : (bts s).length = s.size := by
 unfold bts
 rw [List.length_map, Array.length_toList]; rfl
theorem bts_get (s : ByteArray) (j : Nat) (h : j < s.size) (h' : j < (bts s).length) : (bts s)[j] = (s[j]'h).toNat := by
 have : (bts s)[j]? = some (s[j]'h).toNat := by
  unfold bts
  rw [List.getElem?_map, Array.getElem?_toList, Array.getElem?_eq_getElem h]
  rfl
 rw [List.getElem?_eq_getElem h'] at this
 exact Option.some.inj this
theorem bts_lt (s : ByteArray) : ∀ x ∈ bts s, x < 256 := by
 unfold bts
 intro x hx
 simp only [List.mem_map] at hx
 obtain ⟨u, _, rfl⟩ := hx
 exact UInt8.toNat_lt u
theorem or_put (z x r : Nat) (hz : z < 2 ^ r) (hx : x < 256) (hr : r ≤ 56) : bits .or .u64 (z : Int) (IntKind.u64.wrap ((x : Int) * 2 ^ r)) = ((z + x * 2 ^ r : Nat) : Int) := by
 have h1 : 2 ^ r ≤ 2 ^ 56 := Nat.pow_le_pow_right (by decide) hr
 have h2 : (2 : Nat) ^ 56 = 72057594037927936 := by decide
 have h3 : x * 2 ^ r ≤ 255 * 2 ^ r := Nat.mul_le_mul_right _ (by omega)
 have e : (x : Int) * 2 ^ r = ((x * 2 ^ r : Nat) : Int) := by push_cast; rfl
 rw [e, M64.wrapN _ (by omega), u64_or_nat z (x * 2 ^ r) (by omega) (by omega), Nat.or_comm, nat_join r (x * 2 ^ r) z (Nat.mul_mod_left ..) hz, Nat.add_comm]
def ofP (s : ByteArray) : Option Nat := if s.size = 32 ∧ numS s < P then some (numS s) else none
theorem Of_any (s : ByteArray) (w : World) (V : Vars w) :
  Calls Tryz.prog 44 #[.string s] w fun e w' => e = .returned (two (ofP s)) ∧ Below w.heap.size w w' := by
 have hV := V.big
 have h0 : 1 < w.heap.size := by omega
 have hy0 : ¬ (0 = w.heap.size) := by omega
 have hx0 : ¬ (w.heap.size = 0) := by omega
 have hv0 : 0 < w.heap.size := by omega
 have hy1 : ¬ (1 = w.heap.size) := by omega
 have hx1 : ¬ (w.heap.size = 1) := by omega
 have hv1 : 1 < w.heap.size := by omega
 have hy2 : ¬ (2 = w.heap.size) := by omega
 have hx2 : ¬ (w.heap.size = 2) := by omega
 have hv2 : 2 < w.heap.size := by omega
 have hy3 : ¬ (3 = w.heap.size) := by omega
 have hx3 : ¬ (w.heap.size = 3) := by omega
 have hv3 : 3 < w.heap.size := by omega
 have hy4 : ¬ (4 = w.heap.size) := by omega
 have hx4 : ¬ (w.heap.size = 4) := by omega
 have hv4 : 4 < w.heap.size := by omega
 have hy5 : ¬ (5 = w.heap.size) := by omega
 have hx5 : ¬ (w.heap.size = 5) := by omega
 have hv5 : 5 < w.heap.size := by omega
 have hy6 : ¬ (6 = w.heap.size) := by omega
 have hx6 : ¬ (w.heap.size = 6) := by omega
 have hv6 : 6 < w.heap.size := by omega
 have hy7 : ¬ (7 = w.heap.size) := by omega
 have hx7 : ¬ (w.heap.size = 7) := by omega
 have hv7 : 7 < w.heap.size := by omega
 have hy8 : ¬ (8 = w.heap.size) := by omega
 have hx8 : ¬ (w.heap.size = 8) := by omega
 have hv8 : 8 < w.heap.size := by omega
 have VV := hide V
 by_cases h32 : s.size = 32
 ·have hne : ((s.size : Int) != 32) = false := by rw [h32]; rfl
  obtain ⟨p0, p1, p2, p3, ep, ep'⟩ := arr_open P
  obtain ⟨g0, g1, g2, g3⟩ := V.p.four ep
  have EP := hide ep'
  clear ep ep' V
  go_enter Tryz.func44, Tryz.ntmps44
  go_wp2
  go_loopw [12] (fun i wr => ∃ k : Nat, k ≤ 32 ∧ i = .int .i64 k ∧ wr.heap.size = w.heap.size + 2 ∧ Row wr w.heap.size 37 .u64 [0, 0, 0, 0] ∧ Row wr (w.heap.size + 1) 35 .u64 (digs K 4 (num 256 ((bts s).take k))) ∧ Below w.heap.size w wr) (fun i _ => 32 - (intOf i).toNat)
  case atStart =>
   refine ⟨0, by omega, rfl, by simp, ?_, ?_, ?_⟩
   ·repeat (first | (refine Row.mk ?_ rfl; simp; done) | refine Row.alloc ?_ _)
   ·rw [List.take_zero, num_nil]; repeat (first | (refine Row.mk ?_ rfl; simp; done) | refine Row.alloc ?_ _)
   ·repeat (first | exact Below.refl _ _ | refine new_below ?_ (Nat.le_refl _))
  case round =>
   obtain ⟨k, hk, rfl, hsz, rr, ro, hbel⟩ := hrel
   by_cases hlt : k < 32
   ·have hks : k < s.size := by omega
    have hbl : k < (bts s).length := by rw [bts_length]; exact hks
    have hnt : num 256 ((bts s).take k) < 256 ^ k := by
     have h := num_lt 256 ((bts s).take k) (fun x hx => bts_lt s x (List.mem_of_mem_take hx))
     rwa [List.length_take, Nat.min_eq_left (by omega)] at h
    have hx : s[k].toNat < 256 := UInt8.toNat_lt _
    have hS := hide (num_take 256 (bts s) k hbl)
    rw [bts_get s k hks hbl] at hS
    generalize num 256 ((bts s).take k) = n at *
    have hput := hide (byte_put n k s[k].toNat hnt hlt hx)
    have co := ro.dig (k / 8) (by omega)
    have fo := ro.free (k / 8)
    obtain ⟨q, hq⟩ : ∃ q, q = k / 8 := ⟨_, rfl⟩
    obtain ⟨r, hr⟩ : ∃ r, r = 8 * (k % 8) := ⟨_, rfl⟩
    rw [← hq, ← hr] at hput
    rw [← hq] at co fo
    have hk0 : (0 : Int) ≤ (k : Int) := by omega
    have hk1 : (k : Int) < (s.size : Int) := by omega
    have hq1 : (q : Int) < 4 := by omega
    have hq0 : (0 : Int) ≤ (q : Int) := by omega
    have hdiv : (k : Int) / 8 = (q : Int) := by omega
    have hmod : (8 : Int) * ((k : Int) % 8) = (r : Int) := by omega
    have hr1 : (r : Int) < 64 := by omega
    have hr0 : (0 : Int) ≤ (r : Int) := by omega
    generalize n / K ^ q % K = z at *
    have hor := or_put z s[k].toNat r hput.out.2 hx (by omega)
    obtain ⟨v, hv⟩ : ∃ v, v = z + s[k].toNat * 2 ^ r := ⟨_, rfl⟩
    rw [← hv] at hor hput
    clear hv
    have hro := hide ro
    have hrr := hide rr
    have HQ := hide hq
    have HR := hide hr
    clear ro rr hq hr hnt hbl
    go_wp2
    go_region
    go_wp2
    go_roundw
    case rel =>
     refine ⟨k + 1, by omega, int_eq (by omega), by simp; omega, (hrr.out.off (by omega)).drew, ?_, (put_below hbel (by omega)).drew⟩
     rw [hS.out, ← hput.out.1]
     exact (hro.out.set q v).drew
    case measure => simp [intOf]; omega
   ·have hk4 : k = 32 := by omega
    subst hk4
    rw [List.take_of_length_le (by rw [bts_length]; omega)] at ro
    have hnl : numS s < K ^ 4 := by
     have h := num_lt 256 (bts s) (bts_lt s)
     rw [bts_length, h32] at h
     exact Nat.lt_of_lt_of_le h (by decide)
    have C := fun w => difference_of (numS s) P hnl P_lt w
    obtain ⟨n0, n1, n2, n3, en, en'⟩ := arr_open (numS s)
    obtain ⟨d0, d1, d2, d3, ed, ed'⟩ := arr_open ((numS s + K ^ 4 - P) % K ^ 4)
    rw [en', ed', EP.out] at C
    have C' := hide C
    have ro' : Row wr (w.heap.size + 1) 35 .u64 [n0, n1, n2, n3] := by rw [← en]; exact ro
    obtain ⟨c0, c1, c2, c3⟩ := ro'.four
    have g0' := (hbel.cell (p := ⟨1, 0, none⟩) h0).trans g0
    have g1' := (hbel.cell (p := ⟨1, 1, none⟩) h0).trans g1
    have g2' := (hbel.cell (p := ⟨1, 2, none⟩) h0).trans g2
    have g3' := (hbel.cell (p := ⟨1, 3, none⟩) h0).trans g3
    have hro := hide ro'
    have hrr := hide rr
    have EN := hide en'
    clear C ro ro' rr en en' ed ed' g0 g1 g2 g3
    go_wp2_with fail
    refine (C'.out _).mono ?_
    rintro e w1 ⟨rfl, hb1⟩
    have q1 := Row.below hrr.out hb1 (by omega)
    have q2 := Row.below hro.out hb1 (by omega)
    have hB1 : Below w.heap.size w w1 := hbel.trans (hb1.mono (by omega))
    have hs1 : w.heap.size + 1 < w1.heap.size := q2.lt
    have hs2 : w.heap.size < w1.heap.size := by omega
    obtain ⟨z0, z1, z2, z3⟩ := q1.four
    have f := fun i => q1.free i
    obtain ⟨y0, y1, y2, y3⟩ := q2.four
    clear c0 c1 c2 c3 g0' g1' g2' g3' hro hrr hb1 C' q1 q2
    by_cases hp : numS s < P
    ·have HO : Hid (ofP s = some (numS s)) := if_pos ⟨h32, hp⟩
     rw [if_pos hp]
     go_wp2
     refine bodyPost_ret (v := .tuple #[.agg #[.int .u64 n0, .int .u64 n1, .int .u64 n2, .int .u64 n3], .bool true]) (by simp [results, Tryz.results44, go_sem, z0, z1, z2, z3, hs2]) rfl ⟨by rw [HO.out]; show _ = Ending.returned (.tuple #[arr (numS s), .bool true]); rw [EN.out], ?_⟩
     repeat (first | refine put_below ?_ (by omega) | refine new_below ?_ (Nat.le_refl _) | exact hB1)
    ·have HO : Hid (ofP s = none) := if_neg (fun h => hp h.2)
     rw [if_neg hp]
     go_wp2
     refine bodyPost_ret (v := .tuple #[.agg #[.int .u64 0, .int .u64 0, .int .u64 0, .int .u64 0], .bool false]) (by simp [results, Tryz.results44, go_sem, z0, z1, z2, z3, hs2]) rfl ⟨by rw [HO.out]; rfl, ?_⟩
     repeat (first | refine put_below ?_ (by omega) | refine new_below ?_ (Nat.le_refl _) | exact hB1)
 ·have hne : ((s.size : Int) != 32) = true := by simp; omega
  have HO : Hid (ofP s = none) := if_neg (fun h => h32 h.1)
  clear V
  go_enter Tryz.func44, Tryz.ntmps44
  go_wp2
  refine bodyPost_ret (v := .tuple #[.agg #[.int .u64 0, .int .u64 0, .int .u64 0, .int .u64 0], .bool false]) (by simp [results, Tryz.results44, go_sem]) rfl ⟨by rw [HO.out]; rfl, ?_⟩
  repeat (first | refine put_below ?_ (by omega) | refine new_below ?_ (Nat.le_refl _) | exact Below.refl _ _)
end Go.Proofs.YtefjnfeckenmkaaGreatDoor

namespace Go.Proofs.YtefjnfeckenmkaaGreatDoor
set_option maxHeartbeats 2000000
open Go.RowKit Num
theorem info5 : (Tryz.prog.info? 5).map (fun i => (i.zero, i.size, i.bytes)) = some (some (.int .u8 0), 1, 1) := by kernel_rfl
def cs (l : List UInt8) : List Value := l.map fun c => Value.int .u8 c.toNat
theorem cs_length (l : List UInt8) : (cs l).length = l.length := by simp [cs]
theorem cs_append (l r : List UInt8) : cs (l ++ r) = cs l ++ cs r := by simp [cs]
def Owns (w : World) (B : Nat) (v : Value) (l : List UInt8) : Prop := w.ownsRow B 5 1 v l.length (cs l)
theorem Owns.str {w : World} {B : Nat} {v : Value} {l : List UInt8} (h : Owns w B v l) (hl : 0 < l.length) : (convert 71 9 v).run Tryz.prog w = .ok (.string ⟨l.toArray⟩) w := by
 unfold Owns at h
 rcases h.2 with ⟨rfl, h0⟩ | ⟨g, cap, cur, rfl, _⟩
 ·omega
 ·refine run_convert_bytes_back (P := Tryz.prog) w 71 9 5 ⟨g, 0, none⟩ cap l Tryz.underlying71 Tryz.underlying5 Tryz.underlying9 (fun j hj => ?_)
  exact h.cells (g := g) rfl j _ (by simp [cs, List.getElem?_eq_getElem hj])
theorem news_one (w : World) (x : Value) : ∀ j u, [x][j]? = some u → (w.alloc (.cells #[x] 5)).cell? ((⟨w.heap.size, 0, none⟩ : Addr).add j) = some u := by
 intro j u h
 match j, h with
 | 0, h => simp at h; subst h; simp [Addr.add]
theorem one_one (k : IntKind) (x : Int) : ∀ u ∈ [Value.int k x], u.oneCell' = true := by
 intro u h
 simp at h
 subst h
 rfl
theorem push_byte {w1 : World} {B : Nat} {o : Value} {l : List UInt8} {c : UInt8} {x : Int} (hx : x = (c.toNat : Int)) (h : w1.ownsRow B 5 1 o (l.length + 1) (cs l ++ [.int .u8 x])) : Owns w1 B o (l ++ [c]) := by
 unfold Owns
 rw [cs_append, List.length_append, List.length_singleton]
 subst hx
 exact h
theorem push_below {w wr w1 : World} {B : Nat} {o : Value} {l : List UInt8} {x : Obj} (hb : Below B w wr) (hB : B ≤ w.heap.size) (hown : Owns wr B o l) (hg : (wr.alloc x).grownBy w1 o.ownBlock) : Below B w w1 := by
 have hs := hb.size
 refine (hb.alloc (by omega) x).grown hg (by simp; omega) (fun k hk => ?_)
 exact (World.ownsRow.lt hown k hk).1
def les (k n : Nat) : List UInt8 := (digs 256 k n).map UInt8.ofNat
def bytesOf (n : Nat) : ByteArray := ⟨(les 32 n).toArray⟩
theorem les_length (k n : Nat) : (les k n).length = k := by unfold les; rw [List.length_map, digs_length]
theorem les_snoc (k n : Nat) : les (k + 1) n = les k n ++ [UInt8.ofNat (n / 256 ^ k % 256)] := by
 unfold les
 rw [digs_snoc, List.map_append]
 rfl
set_option maxRecDepth 20000 in
theorem Bytes_any (n : Nat) (w : World) :
  Calls Tryz.prog 53 #[arr n] w fun e w' => e = .returned (.string (bytesOf n)) ∧ Below w.heap.size w w' := by
 obtain ⟨i0, hi, hz0, hz1, hz2⟩ := info_parts info5
 obtain ⟨a0, a1, a2, a3, ea, ea'⟩ := arr_open n
 have EA := hide ea
 rw [ea']
 clear ea ea'
 go_enter Tryz.func53, Tryz.ntmps53
 go_wp2_with (at_make; refine wpList_make_own _ rfl (.const (.int .i64 0)) (.const (.int .i64 32)) 71 rfl (w.heap.size + 1) 5 i0 (.int .u8 0) 1 Tryz.underlying71 hi hz0 hz1 .i64 .i64 _ 32 rfl rfl (by omega) (by rw [hz2]; omega) (by unfold maxLen; omega) (by simp) ?_; intro w1 hown1 hg1)
 have RA : Row (w.alloc (.cells #[.int .u64 a0, .int .u64 a1, .int .u64 a2, .int .u64 a3] 37)) w.heap.size 37 .u64 (digs K 4 n) := by rw [EA.out]; exact Row.mk rfl rfl
 have hsz0 : (w.alloc (.cells #[.int .u64 a0, .int .u64 a1, .int .u64 a2, .int .u64 a3] 37)).heap.size = w.heap.size + 1 := by simp
 have L : Below (w.heap.size + 1) (w.alloc (.cells #[.int .u64 a0, .int .u64 a1, .int .u64 a2, .int .u64 a3] 37)) w1 := (Below.refl _ _).grown hg1 (by simp) (fun k h => by cases h)
 have hBw : Below w.heap.size w (w.alloc (.cells #[.int .u64 a0, .int .u64 a1, .int .u64 a2, .int .u64 a3] 37)) := new_below (Below.refl _ w) (Nat.le_refl _)
 generalize w.alloc (.cells #[.int .u64 a0, .int .u64 a1, .int .u64 a2, .int .u64 a3] 37) = wa at *
 have O : Owns w1 (w.heap.size + 1) (.slice (some ⟨w.heap.size + 1, 0, none⟩) 0 32) (les 0 n) := by rw [hsz0] at hown1; exact hown1
 clear hown1 hg1
 go_loopw [3, 6] (fun o i wr => ∃ k : Nat, k ≤ 32 ∧ i = .int .i64 k ∧ Owns wr (w.heap.size + 1) o (les k n) ∧ Below (w.heap.size + 1) wa wr) (fun _ i _ => 32 - (intOf i).toNat)
 case atStart => exact ⟨0, by omega, rfl, O, L⟩
 case round =>
  clear O L
  obtain ⟨k, hk, rfl, hown, hbel⟩ := hrel
  have hwr := hbel.size
  by_cases hlt : k < 32
  ·have co := (RA.below hbel (by omega)).dig (k / 8) (by omega)
   have hby := hide (byte_of n k)
   have hsn := hide (les_snoc k n)
   have hll := les_length k n
   obtain ⟨q, hq⟩ : ∃ q, q = k / 8 := ⟨_, rfl⟩
   obtain ⟨r, hr⟩ : ∃ r, r = 8 * (k % 8) := ⟨_, rfl⟩
   rw [← hq, ← hr] at hby
   rw [← hq] at co
   generalize n / K ^ q % K = z at *
   obtain ⟨c, hc⟩ : ∃ c, c = UInt8.ofNat (n / 256 ^ k % 256) := ⟨_, rfl⟩
   rw [← hc] at hsn
   have hcn : c.toNat = z / 2 ^ r % 256 := by
    rw [hc, hby.out, UInt8.toNat_ofNat']
    omega
   have hk0 : (0 : Int) ≤ (k : Int) := by omega
   have hq1 : (q : Int) < 4 := by omega
   have hq0 : (0 : Int) ≤ (q : Int) := by omega
   have hdiv : (k : Int) / 8 = (q : Int) := by omega
   have hmod : (8 : Int) * ((k : Int) % 8) = (r : Int) := by omega
   have hr1 : (r : Int) < 64 := by omega
   have hr0 : (0 : Int) ≤ (r : Int) := by omega
   have hsh : (z : Int) / 2 ^ r % 256 = (c.toNat : Int) := by
    rw [hcn, Int.natCast_emod, Int.natCast_ediv, Int.natCast_pow]; rfl
   generalize les k n = acc at *
   have HQ := hide hq
   have HR := hide hr
   clear hq hr hc hcn
   go_wp2_with (at_builtin; refine wpList_append_own _ rfl (.tmp 9) (.tmp 20) 71 rfl (w.heap.size + 1) 5 i0 (.int .u8 0) 1 1 Tryz.underlying71 hi hz0 hz1 hz2 rfl (by decide) _ acc.length (cs acc) rfl (World.ownsRow.alloc hown _) ⟨wr.heap.size, 0, none⟩ 1 1 [.int .u8 (c.toNat : Int)] rfl rfl (news_one _ _) (one_one _ _) (by unfold maxLen; omega) (by omega) (by simp; omega) ?_; intro v3 w3 hown3 hg3 hn3)
   have P1 := push_byte rfl hown3
   have P2 := push_below hbel (by omega) hown hg3
   rw [← hsn.out] at P1
   clear hown3 hg3 hn3 hown hbel
   go_wp2
   go_roundw
   case rel => exact ⟨k + 1, by omega, int_eq (by omega), P1, P2⟩
   case measure => simp [intOf]; omega
  ·have hk4 : k = 32 := by omega
   subst hk4
   have HS := hown.str (by rw [les_length]; omega)
   have hB := hBw.trans (hbel.mono (by omega))
   go_wp2
   go_ret
   exact ⟨rfl, hB⟩
end Go.Proofs.YtefjnfeckenmkaaGreatDoor
