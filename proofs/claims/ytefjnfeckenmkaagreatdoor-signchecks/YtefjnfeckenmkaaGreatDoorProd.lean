/-
 product: the eight words of a product.
-/
import Derived.Test.YtefjnfeckenmkaaGreatDoorW0
namespace Go.Proofs.YtefjnfeckenmkaaGreatDoor
set_option maxHeartbeats 2000000
open Go.RowKit Num
def arr8 (n : Nat) : Value := .agg (cl .u64 (digs K 8 n))
theorem arr8_open (n : Nat) : ∃ a b c d e f g h : Nat, digs K 8 n = [a, b, c, d, e, f, g, h] ∧ arr8 n = .agg #[.int .u64 a, .int .u64 b, .int .u64 c, .int .u64 d, .int .u64 e, .int .u64 f, .int .u64 g, .int .u64 h] := ⟨_, _, _, _, _, _, _, _, rfl, rfl⟩
theorem Row.eight {w : World} {o : Nat} {t : TypeId} {k : IntKind} {a b c d e f g h : Nat} (r : Row w o t k [a, b, c, d, e, f, g, h]) :
  w.cell? ⟨o, 0, none⟩ = some (.int k a) ∧ w.cell? ⟨o, 1, none⟩ = some (.int k b) ∧ w.cell? ⟨o, 2, none⟩ = some (.int k c) ∧ w.cell? ⟨o, 3, none⟩ = some (.int k d) ∧
  w.cell? ⟨o, 4, none⟩ = some (.int k e) ∧ w.cell? ⟨o, 5, none⟩ = some (.int k f) ∧ w.cell? ⟨o, 6, none⟩ = some (.int k g) ∧ w.cell? ⟨o, 7, none⟩ = some (.int k h) :=
 ⟨r.cell 0 (by simp), r.cell 1 (by simp), r.cell 2 (by simp), r.cell 3 (by simp), r.cell 4 (by simp), r.cell 5 (by simp), r.cell 6 (by simp), r.cell 7 (by simp)⟩
theorem product_any (a b : Nat) (ha : a < K ^ 4) (hb : b < K ^ 4) (w : World) :
  Calls Tryz.prog 125 #[arr a, arr b] w fun e w' => e = .returned (arr8 (a * b)) ∧ Below w.heap.size w w' := by
 obtain ⟨a0, a1, a2, a3, ea, ea'⟩ := arr_open a
 obtain ⟨b0, b1, b2, b3, eb, eb'⟩ := arr_open b
 have EA := hide ea
 have EB := hide eb
 have HA := hide ha
 have HB := hide hb
 rw [ea', eb']
 clear ea eb ea' eb' ha hb
 go_enter Tryz.func125, Tryz.ntmps125
 go_wp2
 go_loopw [9] (fun i wr => ∃ k : Nat, k ≤ 4 ∧ i = .int .i64 k ∧ wr.heap.size = w.heap.size + 4 ∧ Row wr w.heap.size 35 .u64 (digs K 4 a) ∧ Row wr (w.heap.size + 1) 35 .u64 (digs K 4 b) ∧ Row wr (w.heap.size + 1 + 1) 107 .u64 (digs K 8 0) ∧ Row wr (w.heap.size + 1 + 1 + 1) 107 .u64 (digs K 8 (a % K ^ k * b)) ∧ a % K ^ k * b < K ^ (k + 4) ∧ Below w.heap.size w wr) (fun i _ => 4 - (intOf i).toNat)
 case atStart =>
  refine ⟨0, by omega, rfl, ?_, ?_, ?_, ?_, ?_, ?_, ?_⟩
  ·simp
  ·rw [EA.out]; repeat (first | (refine Row.mk ?_ rfl; simp; done) | refine Row.alloc ?_ _)
  ·rw [EB.out]; repeat (first | (refine Row.mk ?_ rfl; simp; done) | refine Row.alloc ?_ _)
  ·repeat (first | (refine Row.mk ?_ rfl; simp; done) | refine Row.alloc ?_ _)
  ·simp only [Nat.pow_zero, Nat.mod_one, Nat.zero_mul]; repeat (first | (refine Row.mk ?_ rfl; simp; done) | refine Row.alloc ?_ _)
  ·rw [Nat.pow_zero, Nat.mod_one, Nat.zero_mul]; decide
  ·exact ((((Below.refl _ w).alloc (Nat.le_refl _) _).alloc (by simp) _).alloc (by simp; omega) _).alloc (by simp; omega) _
 case round =>
  obtain ⟨k, hk, rfl, hsz, ra, rb, rr, ro, hlow, hbel⟩ := hrel
  by_cases hlt : k < 4
  ·have hra := hide ra
   have hrb := hide rb
   have hrr := hide rr
   have hro := hide ro
   have HL := hide hlow
   clear ra rb rr ro hlow
   have hk0 : (0 : Int) ≤ (k : Int) := by omega
   have hk1 : (k : Int) < 4 := by omega
   go_wp2
   go_loopw [7, 12] (fun c j wq => ∃ (m c' M : Nat), m ≤ 4 ∧ j = .int .i64 m ∧ c = .int .u64 c' ∧ c' < K ∧ Hid (M + c' * K ^ (k + m) = a % K ^ k * b + (a / K ^ k % K) * (b % K ^ m) * K ^ k) ∧ Hid (M < K ^ (k + 4)) ∧ wq.heap.size = w.heap.size + 4 ∧ Row wq w.heap.size 35 .u64 (digs K 4 a) ∧ Row wq (w.heap.size + 1) 35 .u64 (digs K 4 b) ∧ Row wq (w.heap.size + 1 + 1) 107 .u64 (digs K 8 0) ∧ Row wq (w.heap.size + 1 + 1 + 1) 107 .u64 (digs K 8 M) ∧ Below w.heap.size w wq) (fun _ j _ => 4 - (intOf j).toNat)
   case atStart =>
    refine ⟨0, 0, a % K ^ k * b, by omega, rfl, rfl, by decide, ?_, HL.out, hsz, hra.out, hrb.out, hrr.out, hro.out, hbel⟩
    show _ = _
    rw [Nat.zero_mul, Nat.pow_zero, Nat.mod_one, Nat.mul_zero, Nat.zero_mul]
   case round =>
    clear hra hrb hrr hro HL hbel hsz
    obtain ⟨m, c, M, hm, rfl, rfl, hc, hM, hlow, hsz, ra, rb, rr, ro, hbel⟩ := hrel
    by_cases hlm : m < 4
    ·have ca := ra.dig k hlt
     have cb := rb.dig m hlm
     have co := ro.dig (k + m) (by omega)
     have fo := ro.free (k + m)
     have hS := hide (mul_step K M c _ _ b m k (by decide) hM.out hlow.out hlm hlt (Nat.mod_lt _ (by decide)) hc)
     have hx : a / K ^ k % K < 18446744073709551616 := Nat.mod_lt _ (by decide)
     have hy : b / K ^ m % K < 18446744073709551616 := Nat.mod_lt _ (by decide)
     have hz : M / K ^ (k + m) % K < 18446744073709551616 := Nat.mod_lt _ (by decide)
     generalize a / K ^ k % K = x at *
     generalize b / K ^ m % K = y at *
     generalize M / K ^ (k + m) % K = z at *
     have hra := hide ra
     have hrb := hide rb
     have hrr := hide rr
     have hro := hide ro
     clear ra rb rr ro hM hlow
     have hm0 : (0 : Int) ≤ (m : Int) := by omega
     have hm1 : (m : Int) < 4 := by omega
     obtain ⟨q, hq⟩ : ∃ q, q = k + m := ⟨_, rfl⟩
     have hw : IntKind.i64.wrap ((k : Int) + (m : Int)) = (q : Int) := by rw [IntKind.wrap_i64]; omega
     have hkm : (q : Int) < 8 := by omega
     have hkm0 : (0 : Int) ≤ (q : Int) := by omega
     rw [← hq] at co fo
     have HQ := hide hq
     clear hq
     have C := fun w => step_any x y z c hx hy hz hc w
     obtain ⟨s, hs⟩ : ∃ s, s = (x * y + z + c) % 18446744073709551616 := ⟨_, rfl⟩
     obtain ⟨d, hd⟩ : ∃ d, d = (x * y + z + c) / 18446744073709551616 := ⟨_, rfl⟩
     rw [← hs, ← hd] at C
     have HS := hide hs
     have HD := hide hd
     have C' := hide C
     clear hs hd C
     go_wp2
     go_region_with (go_at_call 137; refine (C'.out _).mono ?_; rintro e w' ⟨rfl, rfl⟩)
     all_goals
      go_wp2
      go_roundw
      case rel =>
       obtain ⟨M', e1, e2, e3, e4⟩ := hS.out
       have e1' : (digs K 8 M).set q s = digs K 8 M' := by rw [HQ.out, HS.out]; exact e1
       refine ⟨m + 1, d, M', by omega, int_eq (by omega), rfl, by rw [HD.out]; exact e4, by rw [HD.out]; exact e2, e3, by simp; omega, (hra.out.off (by omega)).drew, (hrb.out.off (by omega)).drew, (hrr.out.off (by omega)).drew, ?_, (put_below hbel (by omega)).drew⟩
       rw [← e1']
       exact (hro.out.set q s).drew
      case measure => simp [intOf]; omega
    ·have hm4 : m = 4 := by omega
     subst hm4
     have hR := hide (mul_row K M c a b k (by decide) HB.out hM.out hlow.out hlt hc)
     have co := ro.dig (k + 4) (by omega)
     have fo := ro.free (k + 4)
     generalize M / K ^ (k + 4) % K = z at co
     have hra := hide ra
     have hrb := hide rb
     have hrr := hide rr
     have hro := hide ro
     clear ra rb rr ro hM hlow
     go_wp2
     go_roundw
     case rel =>
      refine ⟨k + 1, by omega, int_eq (by omega), by simp; omega, hra.out.off (by omega), hrb.out.off (by omega), hrr.out.off (by omega), ?_, hR.out.2, put_below hbel (by omega)⟩
      rw [← hR.out.1]
      exact hro.out.set (k + 4) c
     case measure => simp [intOf]; omega
  ·have hk4 : k = 4 := by omega
   subst hk4
   rw [Nat.mod_eq_of_lt HA.out] at ro
   obtain ⟨r0, r1, r2, r3, r4, r5, r6, r7, er, er'⟩ := arr8_open (a * b)
   have ER := hide er'
   rw [er] at ro
   obtain ⟨c0, c1, c2, c3, c4, c5, c6, c7⟩ := ro.eight
   obtain ⟨d0, d1, d2, d3, d4, d5, d6, d7⟩ := rr.eight
   have f := fun i => rr.free i
   clear er er' ro rr ra rb hlow
   go_wp2
   refine bodyPost_ret (v := .agg #[.int .u64 r0, .int .u64 r1, .int .u64 r2, .int .u64 r3, .int .u64 r4, .int .u64 r5, .int .u64 r6, .int .u64 r7]) (by simp [results, Tryz.results125, go_sem, d0, d1, d2, d3, d4, d5, d6, d7]) rfl ⟨by rw [ER.out], ?_⟩
   exact put_below (put_below (put_below (put_below (put_below (put_below (put_below (put_below hbel (by omega)) (by omega)) (by omega)) (by omega)) (by omega)) (by omega)) (by omega)) (by omega)
end Go.Proofs.YtefjnfeckenmkaaGreatDoor
