/-
 scalar, in the curve's seat: Word El Sum.
-/
import Derived.Test.YtefjnfeckenmkaaGreatDoorC1
import Derived.Laws.IdiomCopy
namespace Go.Proofs.YtefjnfeckenmkaaGreatDoor.Sc
set_option maxHeartbeats 1000000
open Go.RowKit Num
theorem step_any (a b c d : Nat) (ha : a < 18446744073709551616) (hb : b < 18446744073709551616) (hc : c < 18446744073709551616) (hd : d < 18446744073709551616) (w : World) :
  Calls Tryz.prog 99 #[.int .u64 a, .int .u64 b, .int .u64 c, .int .u64 d] w fun e w' => e = .returned (.tuple #[.int .u64 (((a * b + c + d) / 18446744073709551616 : Nat) : Int), .int .u64 (((a * b + c + d) % 18446744073709551616 : Nat) : Int)]) ∧ w' = w := by
 have C := hide (mul64 a b ha hb w)
 have hp : a * b ≤ 18446744073709551615 * 18446744073709551615 := Nat.mul_le_mul (by omega) (by omega)
 generalize a * b = p at *
 obtain ⟨lo, hlo⟩ : ∃ lo, lo = p % 18446744073709551616 := ⟨_, rfl⟩
 obtain ⟨hi, hhi⟩ : ∃ hi, hi = p / 18446744073709551616 := ⟨_, rfl⟩
 obtain ⟨l1, hl1⟩ : ∃ l1, l1 = (lo + c) % 18446744073709551616 := ⟨_, rfl⟩
 obtain ⟨c1, hc1⟩ : ∃ c1, c1 = (lo + c) / 18446744073709551616 := ⟨_, rfl⟩
 obtain ⟨l2, hl2⟩ : ∃ l2, l2 = (l1 + d) % 18446744073709551616 := ⟨_, rfl⟩
 obtain ⟨c2, hc2⟩ : ∃ c2, c2 = (l1 + d) / 18446744073709551616 := ⟨_, rfl⟩
 have A1 := fun w => add64z lo c w
 have A2 := fun w => add64z l1 d w
 rw [← hl1, ← hc1] at A1
 rw [← hl2, ← hc2] at A2
 rw [← hlo, ← hhi] at C
 have b1 : hi + c1 < 18446744073709551616 := by omega
 have b2 : hi + c1 + c2 < 18446744073709551616 := by omega
 have E1 : Hid (hi + c1 + c2 = (p + c + d) / 18446744073709551616) := by show hi + c1 + c2 = _; omega
 have E2 : Hid (l2 = (p + c + d) % 18446744073709551616) := by show l2 = _; omega
 clear hlo hhi hl1 hc1 hl2 hc2 hp
 go_enter Tryz.func99, Tryz.ntmps99
 go_wp2_with fail
 refine C.out.mono ?_
 rintro e w' ⟨rfl, rfl⟩
 clear C
 go_wp2
 go_ret2
 rw [← E1.out, ← E2.out]
 exact ⟨ret_two (by omega) rfl, rfl⟩
theorem info34 : (Tryz.prog.info? 73).map (·.size) = some 4 := by kernel_rfl
theorem run_alloc34 {ρ : Operand → Value} {w : World} {dst : Option Tmp} {ty : TypeId} {pos : String} {aft : Array Edge} {gd : Option (Nat × Bool)} :
  (execOp ρ ⟨dst, .alloc 73, ty, pos, aft, gd⟩).run Tryz.prog w = .ok (.value (.pointer (some ⟨w.heap.size, 0, none⟩))) (w.alloc (.cells (el 0) 73)) := by
 simp only [execOp]
 go_simp
 rfl
theorem run_box34 {ρ : Operand → Value} {x : Operand} {c : Array Value} {w : World} {dst : Option Tmp} {ty : TypeId} {pos : String} {aft : Array Edge} {gd : Option (Nat × Bool)} (hx : ρ x = .agg c) :
  (execOp ρ ⟨dst, .box 73 x, ty, pos, aft, gd⟩).run Tryz.prog w = .ok (.value (.pointer (some ⟨w.heap.size, 0, none⟩))) (w.alloc (.cells c 73)) := by
 simp only [execOp, hx]
 go_simp
theorem sum_any (a b : Nat) (w : World) :
  Calls Tryz.prog 55 #[arr a, arr b] w fun e w' => e = .returned (.tuple #[arr ((a % K ^ 4 + b % K ^ 4) % K ^ 4), .int .u64 ((a % K ^ 4 + b % K ^ 4) / K ^ 4 : Nat)]) ∧ Below w.heap.size w w' := by
 obtain ⟨a0, a1, a2, a3, ea, ea'⟩ := arr_open a
 obtain ⟨b0, b1, b2, b3, eb, eb'⟩ := arr_open b
 have EA := hide ea
 have EB := hide eb
 rw [ea', eb']
 clear ea eb ea' eb'
 go_enter Tryz.func55, Tryz.ntmps55
 go_wp2
 go_loopw [7, 9] (fun c i wr => ∃ k : Nat, k ≤ 4 ∧ i = .int .i64 k ∧ c = .int .u64 ((a % K ^ k + b % K ^ k) / K ^ k : Nat) ∧ wr.heap.size = w.heap.size + 4 ∧ Row wr w.heap.size 73 .u64 (digs K 4 a) ∧ Row wr (w.heap.size + 1) 73 .u64 (digs K 4 b) ∧ Row wr (w.heap.size + 1 + 1) 73 .u64 (digs K 4 0) ∧ Row wr (w.heap.size + 1 + 1 + 1) 73 .u64 (digs K 4 ((a % K ^ k + b % K ^ k) % K ^ k)) ∧ Below w.heap.size w wr) (fun _ i _ => 4 - (intOf i).toNat)
 case atStart =>
  refine ⟨0, by omega, rfl, by simp [Nat.mod_one], ?_, ?_, ?_, ?_, ?_, ?_⟩
  ·simp
  ·rw [EA.out]; repeat (first | (refine Row.mk ?_ rfl; simp; done) | refine Row.alloc ?_ _)
  ·rw [EB.out]; repeat (first | (refine Row.mk ?_ rfl; simp; done) | refine Row.alloc ?_ _)
  ·repeat (first | (refine Row.mk ?_ rfl; simp; done) | refine Row.alloc ?_ _)
  ·simp only [Nat.pow_zero, Nat.mod_one]; repeat (first | (refine Row.mk ?_ rfl; simp; done) | refine Row.alloc ?_ _)
  ·exact ((((Below.refl _ w).alloc (Nat.le_refl _) _).alloc (by simp) _).alloc (by simp; omega) _).alloc (by simp; omega) _
 case round =>
  obtain ⟨k, hk, rfl, rfl, hsz, ra, rb, rr, ro, hbel⟩ := hrel
  by_cases hlt : k < 4
  ·have ca := ra.dig k hlt
   have cb := rb.dig k hlt
   have co := ro.dig k hlt
   have hA := hide (add_step K a b k (by decide))
   have hcl := carry_le a b k
   have hc1 := hide (carry_le a b (k + 1))
   obtain ⟨c, hc⟩ : ∃ c, c = (a % K ^ k + b % K ^ k) / K ^ k := ⟨_, rfl⟩
   obtain ⟨x, hx⟩ : ∃ x, x = a / K ^ k % K := ⟨_, rfl⟩
   obtain ⟨y, hy⟩ : ∃ y, y = b / K ^ k % K := ⟨_, rfl⟩
   obtain ⟨z, hz⟩ : ∃ z, z = (a % K ^ k + b % K ^ k) % K ^ k / K ^ k % K := ⟨_, rfl⟩
   rw [← hx] at ca
   rw [← hy] at cb
   rw [← hz] at co
   rw [← hc] at hcl ⊢
   rw [← hc, ← hx, ← hy] at hA
   have fo := ro.free k
   have A := fun w => add64 x y c hcl w
   have hk0 : (0 : Int) ≤ (k : Int) := by omega
   have hk1 : (k : Int) < 4 := by omega
   obtain ⟨s, hs⟩ : ∃ s, s = (x + y + c) % 18446744073709551616 := ⟨_, rfl⟩
   obtain ⟨d, hd⟩ : ∃ d, d = (x + y + c) / 18446744073709551616 := ⟨_, rfl⟩
   rw [← hs, ← hd] at A
   have HS := hide hs
   have HD := hide hd
   have HC := hide hc
   have hro := hide ro
   have hra := hide ra
   have hrb := hide rb
   have hrr := hide rr
   clear hs hd hc hx hy hz ra rb rr ro
   go_wp2
   go_region
   go_wp2
   go_roundw
   case rel =>
    refine ⟨k + 1, by omega, int_eq (by omega), ?_, by simp; omega, (hra.out.off (by omega)).drew, (hrb.out.off (by omega)).drew, (hrr.out.off (by omega)).drew, ?_, (put_below hbel (by omega)).drew⟩
    ·rw [hA.out.2, HD.out]
    ·rw [hA.out.1, ← digs_push K 4 _ k _ (Nat.mod_lt _ (Nat.pow_pos (by decide))) hlt (Nat.mod_lt _ (by decide)), ← HS.out]
     exact (hro.out.set k s).drew
   case measure => simp [intOf]; omega
  ·have hk4 : k = 4 := by omega
   subst hk4
   obtain ⟨r0, r1, r2, r3, er, er'⟩ := arr_open ((a % K ^ 4 + b % K ^ 4) % K ^ 4)
   have ER := hide er'
   rw [er] at ro
   obtain ⟨c0, c1, c2, c3⟩ := ro.four
   obtain ⟨d0, d1, d2, d3⟩ := rr.four
   obtain ⟨f0, f1, f2, f3⟩ := rr.frees
   clear er er' ro rr ra rb
   obtain ⟨c, hc⟩ : ∃ c, c = (a % K ^ 4 + b % K ^ 4) / K ^ 4 := ⟨_, rfl⟩
   rw [← hc]
   have HC := hide hc
   clear hc
   go_wp2
   refine bodyPost_ret (v := .tuple #[.agg #[.int .u64 r0, .int .u64 r1, .int .u64 r2, .int .u64 r3], .int .u64 c]) (by simp [results, Tryz.results55, go_sem, d0, d1, d2, d3]) rfl ⟨by rw [ER.out, HC.out], ?_⟩
   exact put_below (put_below (put_below (put_below hbel (by omega)) (by omega)) (by omega)) (by omega)
theorem difference_any (a b : Nat) (w : World) :
  Calls Tryz.prog 127 #[arr a, arr b] w fun e w' => e = .returned (.tuple #[arr ((a % K ^ 4 + K ^ 4 - b % K ^ 4) % K ^ 4), .int .u64 (bor K a b 4 : Nat)]) ∧ Below w.heap.size w w' := by
 obtain ⟨a0, a1, a2, a3, ea, ea'⟩ := arr_open a
 obtain ⟨b0, b1, b2, b3, eb, eb'⟩ := arr_open b
 have EA := hide ea
 have EB := hide eb
 rw [ea', eb']
 clear ea eb ea' eb'
 go_enter Tryz.func127, Tryz.ntmps127
 go_wp2
 go_loopw [7, 9] (fun c i wr => ∃ k : Nat, k ≤ 4 ∧ i = .int .i64 k ∧ c = .int .u64 (bor K a b k : Nat) ∧ wr.heap.size = w.heap.size + 4 ∧ Row wr w.heap.size 73 .u64 (digs K 4 a) ∧ Row wr (w.heap.size + 1) 73 .u64 (digs K 4 b) ∧ Row wr (w.heap.size + 1 + 1) 73 .u64 (digs K 4 0) ∧ Row wr (w.heap.size + 1 + 1 + 1) 73 .u64 (digs K 4 ((a % K ^ k + K ^ k - b % K ^ k) % K ^ k)) ∧ Below w.heap.size w wr) (fun _ i _ => 4 - (intOf i).toNat)
 case atStart =>
  refine ⟨0, by omega, rfl, by simp [bor, Nat.mod_one], ?_, ?_, ?_, ?_, ?_, ?_⟩
  ·simp
  ·rw [EA.out]; repeat (first | (refine Row.mk ?_ rfl; simp; done) | refine Row.alloc ?_ _)
  ·rw [EB.out]; repeat (first | (refine Row.mk ?_ rfl; simp; done) | refine Row.alloc ?_ _)
  ·repeat (first | (refine Row.mk ?_ rfl; simp; done) | refine Row.alloc ?_ _)
  ·simp only [Nat.pow_zero, Nat.mod_one]; repeat (first | (refine Row.mk ?_ rfl; simp; done) | refine Row.alloc ?_ _)
  ·exact ((((Below.refl _ w).alloc (Nat.le_refl _) _).alloc (by simp) _).alloc (by simp; omega) _).alloc (by simp; omega) _
 case round =>
  obtain ⟨k, hk, rfl, rfl, hsz, ra, rb, rr, ro, hbel⟩ := hrel
  by_cases hlt : k < 4
  ·have ca := ra.dig k hlt
   have cb := rb.dig k hlt
   have co := ro.dig k hlt
   have hA := hide (sub_step K a b k (by decide))
   have hcl := bor_le a b k
   have hc1 := hide (bor_le a b (k + 1))
   obtain ⟨c, hc⟩ : ∃ c, c = bor K a b k := ⟨_, rfl⟩
   obtain ⟨x, hx⟩ : ∃ x, x = a / K ^ k % K := ⟨_, rfl⟩
   obtain ⟨y, hy⟩ : ∃ y, y = b / K ^ k % K := ⟨_, rfl⟩
   obtain ⟨z, hz⟩ : ∃ z, z = (a % K ^ k + K ^ k - b % K ^ k) % K ^ k / K ^ k % K := ⟨_, rfl⟩
   rw [← hx] at ca
   rw [← hy] at cb
   rw [← hz] at co
   rw [← hc] at hcl ⊢
   rw [← hc, ← hx, ← hy] at hA
   have fo := ro.free k
   have A := fun w => sub64 x y c hcl w
   have hk0 : (0 : Int) ≤ (k : Int) := by omega
   have hk1 : (k : Int) < 4 := by omega
   obtain ⟨s, hs⟩ : ∃ s, s = (x + 18446744073709551616 - y - c) % 18446744073709551616 := ⟨_, rfl⟩
   obtain ⟨d, hd⟩ : ∃ d : Nat, d = if x < y + c then 1 else 0 := ⟨_, rfl⟩
   rw [← hs, ← hd] at A
   have HS := hide hs
   have HD := hide hd
   have HC := hide hc
   have hro := hide ro
   have hra := hide ra
   have hrb := hide rb
   have hrr := hide rr
   clear hs hd hc hx hy hz ra rb rr ro
   go_wp2
   go_region
   go_wp2
   go_roundw
   case rel =>
    refine ⟨k + 1, by omega, int_eq (by omega), ?_, by simp; omega, (hra.out.off (by omega)).drew, (hrb.out.off (by omega)).drew, (hrr.out.off (by omega)).drew, ?_, (put_below hbel (by omega)).drew⟩
    ·rw [hA.out.2, HD.out]
    ·rw [hA.out.1, ← digs_push K 4 _ k _ (Nat.mod_lt _ (Nat.pow_pos (by decide))) hlt (Nat.mod_lt _ (by decide)), ← HS.out]
     exact (hro.out.set k s).drew
   case measure => simp [intOf]; omega
  ·have hk4 : k = 4 := by omega
   subst hk4
   obtain ⟨r0, r1, r2, r3, er, er'⟩ := arr_open ((a % K ^ 4 + K ^ 4 - b % K ^ 4) % K ^ 4)
   have ER := hide er'
   rw [er] at ro
   obtain ⟨c0, c1, c2, c3⟩ := ro.four
   obtain ⟨d0, d1, d2, d3⟩ := rr.four
   obtain ⟨f0, f1, f2, f3⟩ := rr.frees
   clear er er' ro rr ra rb
   obtain ⟨c, hc⟩ : ∃ c, c = bor K a b 4 := ⟨_, rfl⟩
   rw [← hc]
   have HC := hide hc
   clear hc
   go_wp2
   refine bodyPost_ret (v := .tuple #[.agg #[.int .u64 r0, .int .u64 r1, .int .u64 r2, .int .u64 r3], .int .u64 c]) (by simp [results, Tryz.results127, go_sem, d0, d1, d2, d3]) rfl ⟨by rw [ER.out, HC.out], ?_⟩
   exact put_below (put_below (put_below (put_below hbel (by omega)) (by omega)) (by omega)) (by omega)
end Go.Proofs.YtefjnfeckenmkaaGreatDoor.Sc

namespace Go.Proofs.YtefjnfeckenmkaaGreatDoor.Sc
open Go.RowKit Num
theorem rounds_more {P : Program} {Q : Exit → Act → World → Prop} {c : Code} : ∀ (n : Nat) (a : Act) (w : World), Code.rounds P c Q n a w → Code.rounds P c Q (n + 1) a w
 | 0, _, _, h => h.elim
 | n + 1, a, w, h => by
  rw [rounds_succ] at h ⊢
  exact Code.wp_mono (fun e a w he => by cases e <;> first | exact rounds_more n a w he | exact he) h
theorem rounds_le {P : Program} {Q : Exit → Act → World → Prop} {c : Code} {n m : Nat} (h : n ≤ m) {a : Act} {w : World} (hr : Code.rounds P c Q n a w) : Code.rounds P c Q m a w := by
 induction h with
 | refl => exact hr
 | step _ ih => exact rounds_more _ _ _ ih
theorem wp_while {P : Program} {Q : Exit → Act → World → Prop} {c : Code} (I : Nat → Act → World → Prop) (m : Nat) {a : Act} {w : World} (h0 : I m a w)
  (round : ∀ m a w, I m a w → c.wp P (Exit.then (fun a' w' => ∃ m', m' < m ∧ I m' a' w') Q) a w) : (Code.loop c).wp P Q a w := by
 have key : ∀ m a w, I m a w → Code.rounds P c Q (m + 1) a w := by
  intro m
  induction m using Nat.strongRecOn with
  | ind m ih =>
   intro a w hI
   rw [rounds_succ]
   refine Code.wp_mono (fun e a w he => ?_) (round m a w hI)
   cases e with
   | normal =>
    obtain ⟨m', hm, h'⟩ := he
    exact rounds_le hm (ih m' hm a w h')
   | _ => exact he
 exact wp_loop_rounds (m + 1) (key m a w h0)
structure GF (w0 : World) (L : List (Nat × TypeId × Array Value)) (i0 i1 j q : Nat) (t : TypeId) (c : Array Value) (g : Nat → Nat) (d : Nat → Bool) (w : World) : Prop where
 held : HA w0 (if d i0 = true then L.set j (q, t, c) else L) w
 seen : d i0 = true → d i1 = true
section
variable {ops : Array Oper} {Q : Exit → Act → World → Prop} {F : (Nat → Nat) → Act} {i i0 i1 j q : Nat} {dst : Option Tmp} {T ty : TypeId} {pos : String} {aft : Array Edge} {gd : Option (Nat × Bool)}
 {w0 : World} {L : List (Nat × TypeId × Array Value)} {t : TypeId} {c : Array Value}
theorem GF.keep {g : Nat → Nat} {d : Nat → Bool} {w w' : World} (h : GF w0 L i0 i1 j q t c g d w) (hi : i ≠ i0) (hb : Below w.heap.size w w') : GF w0 L i0 i1 j q t c g (up d i true) w' :=
 ⟨by rw [up_ne _ _ (Ne.symm hi)]; exact h.held.keep _ _ hb, fun h0 => by
  rw [up_ne _ _ (Ne.symm hi)] at h0
  by_cases hii : i1 = i
  ·rw [hii]; exact up_at _ _ _
  ·rw [up_ne _ _ hii]; exact h.seen h0⟩
theorem gf_plain {o : Oper} {v : Value}   
  (hr : ∀ g w, (execOp (F g).eval o).run Tryz.prog w = .ok (.value v) w) (hi : i ≠ i0 := by decide) (hw : ∀ g, Region.wanted o (yielded ops (F g).tmps) = true := by intro _; kernel_rfl) (hp : ∀ g, (F g).put o.dst v = F g := by intro _; kernel_rfl) : OpGhost Tryz.prog .any ops Q (GF w0 L i0 i1 j q t c) F i o :=
 OpGhost.take (v := fun _ => v) hw hp (fun g _ w h _ => ⟨hr g w, h.keep hi (Below.refl _ w)⟩)
theorem gf_load {x : Operand} {D : TypeDesc} {e : Nat × TypeId × Array Value} (m : Nat) (hm : L[m]? = some e) 
   
  (hu : Tryz.prog.underlying T = some D) (hd : D.isRow = true) (hz : (Tryz.prog.info? T).map (·.size) = some e.2.2.size) (hi : i1 ≠ i0 := by decide) (hw : ∀ g, Region.wanted ⟨dst, .load T x, ty, pos, aft, gd⟩ (yielded ops (F g).tmps) = true := by intro _; kernel_rfl) (hp : ∀ g, (F g).put dst (.agg e.2.2) = F g := by intro _; kernel_rfl) (hx : ∀ g, (F g).eval x = .pointer (some ⟨e.1, 0, none⟩) := by intro _; kernel_rfl) :
  OpGhost Tryz.prog .any ops Q (GF w0 L i0 i1 j q t c) F i1 ⟨dst, .load T x, ty, pos, aft, gd⟩ := fun g d w h hdi _ => by
 rw [if_pos (hw g)]
 unfold Oper.wp
 have h0 : d i0 = false := by
  cases h0 : d i0 with
  | false => rfl
  | true => rw [h.seen h0] at hdi; cases hdi
 have hH := h.held
 rw [h0, if_neg (by decide)] at hH
 rw [run_load_blk (hx := (hx g)) (hH.get m hm) hu hd hz]
 exact ⟨g i1, by rw [up_self]; exact hp g, by rw [up_self]; exact h.keep hi (Below.refl _ w)⟩
theorem gf_load2 {x : Operand} {D : TypeDesc} {e : Nat × TypeId × Array Value} (m : Nat)  (hm : L[m]? = some e) 
   
  (hu : Tryz.prog.underlying T = some D) (hd : D.isRow = true) (hz : (Tryz.prog.info? T).map (·.size) = some e.2.2.size) (hjm : j ≠ m := by decide) (hi : i ≠ i0 := by decide) (hw : ∀ g, Region.wanted ⟨dst, .load T x, ty, pos, aft, gd⟩ (yielded ops (F g).tmps) = true := by intro _; kernel_rfl) (hp : ∀ g, (F g).put dst (.agg e.2.2) = F g := by intro _; kernel_rfl) (hx : ∀ g, (F g).eval x = .pointer (some ⟨e.1, 0, none⟩) := by intro _; kernel_rfl) :
  OpGhost Tryz.prog .any ops Q (GF w0 L i0 i1 j q t c) F i ⟨dst, .load T x, ty, pos, aft, gd⟩ :=
 OpGhost.take (v := fun _ => .agg e.2.2) hw hp (fun g d w h _ => by
  have hB : Blk w e.1 e.2.1 e.2.2 := by
   have hH := h.held
   split at hH
   ·exact hH.get m (by rw [List.getElem?_set_ne hjm]; exact hm)
   ·exact hH.get m hm
  exact ⟨run_load_blk (hx := (hx g)) hB hu hd hz, h.keep hi (Below.refl _ w)⟩)
theorem gf_call {f : FuncId} {xs : Array Operand} {ats : Array TypeId} {v : Value} 
  
  (hr : ∀ args w, (callFunc f args).run Tryz.prog w = .ok (.enter f args) w) (args : Array Value) 
  (hc : ∀ w, Calls Tryz.prog f args w fun e w' => e = .returned v ∧ Below w.heap.size w w') (hi : i ≠ i0 := by decide) (hw : ∀ g, Region.wanted ⟨dst, .call { callee := .value (.func f), args := xs, argTypes := ats }, ty, pos, aft, gd⟩ (yielded ops (F g).tmps) = true := by intro _; kernel_rfl) (hp : ∀ g, (F g).put dst v = F g := by intro _; kernel_rfl) (ha : ∀ g, #[] ++ xs.map (F g).eval ++ #[] = args := by intro _; kernel_rfl) :
  OpGhost Tryz.prog .any ops Q (GF w0 L i0 i1 j q t c) F i ⟨dst, .call { callee := .value (.func f), args := xs, argTypes := ats }, ty, pos, aft, gd⟩ :=
 OpGhost.call (v := fun _ => v) (args := fun _ => args) hw hp (fun g w => by rw [execOp_call_go, ha g]; exact hr _ w) (fun _ _ w hS _ => (hc w).mono fun _ _ h => ⟨h.1, hS.keep hi h.2⟩)
theorem gf_fill {x y : Operand} {c0 : Array Value} (hL : L[j]? = some (q, t, c0)) (hs : c.size = c0.size)  
      (hz : (Tryz.prog.info? T).map (·.size) = some c.size) (h1 : c.all (·.oneCell') = true) 
     (hw : ∀ g, Region.wanted ⟨dst, .store T x y, ty, pos, aft, gd⟩ (yielded ops (F g).tmps) = true := by intro _; kernel_rfl) (hp : ∀ g, (F g).put dst undef = F g := by intro _; kernel_rfl) (hx : ∀ g, (F g).eval x = .pointer (some ⟨q, 0, none⟩) := by intro _; kernel_rfl) (hy : ∀ g, (F g).eval y = .agg c := by intro _; kernel_rfl) (hi : i1 ≠ i0 := by decide) (he : (aft.any fun e => Region.binds .any e && e.on == i1) = true := by kernel_rfl) :
    OpGhost Tryz.prog .any ops Q (GF w0 L i0 i1 j q t c) F i0 ⟨dst, .store T x y, ty, pos, aft, gd⟩ :=
  OpGhost.skips (W := fun _ w => w.setCells q 0 c.toList) hw hp (fun g d w h hd haft => by
    obtain ⟨m, hm, h3⟩ := Array.any_eq_true.1 he
    rw [Bool.and_eq_true, beq_iff_eq] at h3
    have ha : d i1 = true := by rw [← h3.2]; exact haft _ (Array.getElem_mem hm) h3.1
    have hH := h.held
    rw [hd, if_neg (by decide)] at hH
    exact ⟨run_store_blk (hx g) (hy g) (hH.get j hL) hs hz h1, by rw [up_at, if_pos rfl]; exact hH.fill j hL hs, fun _ => by rw [up_ne _ _ hi]; exact ha⟩)
theorem GF.start {g : Nat → Nat} {d : Nat → Bool} {w : World} (h : HA w0 L w) (hd : d i0 = false) : GF w0 L i0 i1 j q t c g d w := ⟨by rw [hd]; exact h, fun h0 => by rw [hd] at h0; cases h0⟩
end
section
variable {ops : Array Oper} {Q : Exit → Act → World → Prop} {F : (Nat → Nat) → Act} {i i0 i1 j q : Nat} {dst : Option Tmp} {T ty : TypeId} {pos : String} {aft : Array Edge} {gd : Option (Nat × Bool)}
 {w0 : World} {L : List (Nat × TypeId × Array Value)} {t : TypeId} {c : Array Value}
theorem gf_cell {x : Operand} {v : Value} {e : Nat × TypeId × Array Value} (m : Nat) (hm : L[m]? = some e) (hi : i1 ≠ i0) (off : Nat) (hv : e.2.2[off]? = some v) (hg : ∀ w, (isAgg T).run Tryz.prog w = .ok false w)
  (hw : ∀ g, Region.wanted ⟨dst, .load T x, ty, pos, aft, gd⟩ (yielded ops (F g).tmps) = true) (hp : ∀ g, (F g).put dst v = F g) (hx : ∀ g, (F g).eval x = .pointer (some ⟨e.1, off, none⟩)) :
  OpGhost Tryz.prog .any ops Q (GF w0 L i0 i1 j q t c) F i1 ⟨dst, .load T x, ty, pos, aft, gd⟩ := fun g d w h hdi _ => by
 rw [if_pos (hw g)]
 unfold Oper.wp
 have h0 : d i0 = false := by
  cases h0 : d i0 with
  | false => rfl
  | true => rw [h.seen h0] at hdi; cases hdi
 have hH := h.held
 rw [h0, if_neg (by decide)] at hH
 rw [run_load1 hg (hx := (hx g)) (((hH.get m hm).cell off).trans hv)]
 exact ⟨g i1, by rw [up_self]; exact hp g, by rw [up_self]; exact h.keep hi (Below.refl _ w)⟩
theorem gf_cell2 {x : Operand} {v : Value} {e : Nat × TypeId × Array Value} (m : Nat)  (hm : L[m]? = some e)  (off : Nat) (hv : e.2.2[off]? = some v) (hg : ∀ w, (isAgg T).run Tryz.prog w = .ok false w)
       (hjm : j ≠ m := by decide) (hi : i ≠ i0 := by decide) (hw : ∀ g, Region.wanted ⟨dst, .load T x, ty, pos, aft, gd⟩ (yielded ops (F g).tmps) = true := by intro _; kernel_rfl) (hp : ∀ g, (F g).put dst v = F g := by intro _; kernel_rfl) (hx : ∀ g, (F g).eval x = .pointer (some ⟨e.1, off, none⟩) := by intro _; kernel_rfl) :
    OpGhost Tryz.prog .any ops Q (GF w0 L i0 i1 j q t c) F i ⟨dst, .load T x, ty, pos, aft, gd⟩ :=
  OpGhost.take (v := fun _ => v) hw hp (fun g d w h _ => by
    have hB : Blk w e.1 e.2.1 e.2.2 := by
      have hH := h.held
      split at hH
      · exact hH.get m (by rw [List.getElem?_set_ne hjm]; exact hm)
      · exact hH.get m hm
    exact ⟨run_load1 hg (hx := (hx g)) ((hB.cell off).trans hv), h.keep hi (Below.refl _ w)⟩)
theorem gf_put {x y : Operand} {k : IntKind} {z : Int} {c0 : Array Value} {off : Nat} (hL : L[j]? = some (q, t, c0)) (hoff : off < c0.size) (hc : c0.setIfInBounds off (.int k z) = c) (hs : ∀ w, (sizeOf T).run Tryz.prog w = .ok 1 w)
        
     (hw : ∀ g, Region.wanted ⟨dst, .store T x y, ty, pos, aft, gd⟩ (yielded ops (F g).tmps) = true := by intro _; kernel_rfl) (hp : ∀ g, (F g).put dst undef = F g := by intro _; kernel_rfl) (hx : ∀ g, (F g).eval x = .pointer (some ⟨q, off, none⟩) := by intro _; kernel_rfl) (hy : ∀ g, (F g).eval y = .int k z := by intro _; kernel_rfl) (hi : i1 ≠ i0 := by decide) (he : (aft.any fun e => Region.binds .any e && e.on == i1) = true := by kernel_rfl) :
    OpGhost Tryz.prog .any ops Q (GF w0 L i0 i1 j q t c) F i0 ⟨dst, .store T x y, ty, pos, aft, gd⟩ :=
  OpGhost.skips (W := fun _ w => w.setCell ⟨q, off, none⟩ (.int k z)) hw hp (fun g d w h hd haft => by
    obtain ⟨m, hm, h3⟩ := Array.any_eq_true.1 he
    rw [Bool.and_eq_true, beq_iff_eq] at h3
    have ha : d i1 = true := by rw [← h3.2]; exact haft _ (Array.getElem_mem hm) h3.1
    have hH := h.held
    rw [hd, if_neg (by decide)] at hH
    refine ⟨run_store1 hs (hx g) (hy g) (by rw [(hH.get j hL).cell off]; simp [hoff]) ((hH.get j hL).free off hoff), ?_, fun _ => by rw [up_ne _ _ hi]; exact ha⟩
    rw [up_at, if_pos rfl]
    have := hH.put j hL off (.int k z)
    rw [hc] at this
    exact this)
end
theorem el_sz (n m : Nat) : (el n).size = (el m).size := rfl
theorem el_get (n j : Nat) (hj : j < 4) : (el n)[j]? = some (iN .u64 (n / K ^ j % K)) := by
 unfold el
 rw [cl_get .u64 _ j (by rw [digs_length]; exact hj), digs_get]
 rfl
theorem el_mod (n : Nat) : el (n % K ^ 4) = el n := by
 unfold el
 rw [digs_mod K 4 (n % K ^ 4) n (by decide) (Nat.mod_mod _ _)]
def el8 (n : Nat) : Array Value := cl .u64 (digs K 8 n)
theorem el8_size (n : Nat) : (el8 n).size = 8 := rfl
theorem el8_get (n j : Nat) (hj : j < 8) : (el8 n)[j]? = some (iN .u64 (n / K ^ j % K)) := by
 unfold el8
 rw [cl_get .u64 _ j (by rw [digs_length]; exact hj), digs_get]
 rfl
theorem el8_put (n j x n' : Nat) (h : (digs K 8 n).set j x = digs K 8 n') : (el8 n).setIfInBounds j (.int .u64 (x : Int)) = el8 n' := by
 unfold el8
 rw [← h]
 simp [cl, List.map_set]
theorem el_put (n j x n' : Nat) (h : (digs K 4 n).set j x = digs K 4 n') : (el n).setIfInBounds j (.int .u64 (x : Int)) = el n' := by
 unfold el
 rw [← h]
 simp [cl, List.map_set]
theorem info32 : (Tryz.prog.info? 34).map (·.size) = some 1 := by kernel_rfl
theorem run_alloc61 {ρ : Operand → Value} {w : World} {dst : Option Tmp} {ty : TypeId} {pos : String} {aft : Array Edge} {gd : Option (Nat × Bool)} :
  (execOp ρ ⟨dst, .alloc 107, ty, pos, aft, gd⟩).run Tryz.prog w = .ok (.value (.pointer (some ⟨w.heap.size, 0, none⟩))) (w.alloc (.cells (el8 0) 107)) := by
 simp only [execOp]
 go_simp
 rfl
section
variable {ρ : Operand → Value} {x : Operand} {w : World} {dst : Option Tmp} {ty : TypeId} {pos : String} {aft : Array Edge} {gd : Option (Nat × Bool)} {q : Nat}
theorem run_slice34 (hx : ρ x = .pointer (some ⟨q, 0, none⟩)) : (execOp ρ ⟨dst, .slice 73 x none none none, ty, pos, aft, gd⟩).run Tryz.prog w = .ok (.value (.slice (some ⟨q, 0, none⟩) 4 4)) w := by
 simp only [execOp, hx]
 go_simp
theorem run_slice61h {y : Operand} (hx : ρ x = .pointer (some ⟨q, 0, none⟩)) (hy : ρ y = .int .i64 4) : (execOp ρ ⟨dst, .slice 107 x (some y) none none, ty, pos, aft, gd⟩).run Tryz.prog w = .ok (.value (.slice (some ⟨q, 4, none⟩) 4 4)) w := by
 simp only [execOp, hx, Option.map, hy]
 go_simp
theorem run_slice61l {y : Operand} (hx : ρ x = .pointer (some ⟨q, 0, none⟩)) (hy : ρ y = .int .i64 4) : (execOp ρ ⟨dst, .slice 107 x none (some y) none, ty, pos, aft, gd⟩).run Tryz.prog w = .ok (.value (.slice (some ⟨q, 0, none⟩) 4 8)) w := by
 simp only [execOp, hx, Option.map, hy]
 go_simp
theorem run_copy4 {y : Operand} {p o n : Nat} {t t' : TypeId} {c c' : Array Value} (hx : ρ x = .slice (some ⟨p, 0, none⟩) 4 4) (hy : ρ y = .slice (some ⟨q, o, none⟩) 4 n) (h : Blk w p t c) (hs : c.size = 4) (h' : Blk w q t' c') (d : Array Value) (hd : d.size = 4)
  (hc : ∀ j, j < 4 → c'[o + j]? = d[j]?) (h1 : d.all (·.oneCell') = true) : (execOp ρ ⟨dst, .call { callee := .builtin .copy, args := #[x, y], argTypes := #[125, 125] }, ty, pos, aft, gd⟩).run Tryz.prog w = .ok (.value (iN .i64 4)) (w.setCells p 0 d.toList) := by
 have e := run_copy_cells (P := Tryz.prog) w 125 125 ty 34 p 0 4 4 ⟨q, o, none⟩ 4 n d.toList Tryz.underlying125 info32 (by simp [hd]) (fun j v hv => by
  have hj : j < 4 := by have := (List.getElem?_eq_some_iff.1 hv).1; simp [hd] at this; exact this
  have hadd : (⟨q, o, none⟩ : Addr).add j = ⟨q, o + j, none⟩ := by unfold Addr.add; split <;> simp_all
  rw [hadd, h'.cell (o + j), hc j hj]
  simpa using hv) (fun j hj => by rw [Nat.zero_add, h.cell j]; simp at hj ⊢; omega) (fun j hj => by rw [Nat.zero_add]; exact h.free j (by simp at hj; omega)) (fun v hv => by
  have := Array.all_eq_true_iff_forall_mem.1 h1 v (by simpa using hv)
  exact this)
 simp only [execOp, iN]
 go_simp
end
section
variable {ops : Array Oper} {Q : Exit → Act → World → Prop} {F : (Nat → Nat) → Act} {i i0 j q : Nat} {dst : Option Tmp} {T ty : TypeId} {pos : String} {aft : Array Edge} {gd : Option (Nat × Bool)}
 {w0 : World} {L : List (Nat × TypeId × Array Value)} {t : TypeId} {c : Array Value}
theorem gp_copy {x y : Operand} {o n m : Nat} {c0 : Array Value} {e : Nat × TypeId × Array Value} (hL : L[j]? = some (q, t, c0)) (hs : c0.size = 4) (hm : L[m]? = some e) (hd : c.size = 4) (hc : ∀ k, k < 4 → e.2.2[o + k]? = c[k]?) (h1 : c.all (·.oneCell') = true)
  (hw : ∀ g, Region.wanted ⟨dst, .call { callee := .builtin .copy, args := #[x, y], argTypes := #[125, 125] }, ty, pos, aft, gd⟩ (yielded ops (F g).tmps) = true) (hp : ∀ g (m : Nat), (F g).put dst (iN .i64 4) = F (up g i0 m))
  (hx : ∀ g, (F g).eval x = .slice (some ⟨q, 0, none⟩) 4 4) (hy : ∀ g, (F g).eval y = .slice (some ⟨e.1, o, none⟩) 4 n) :
  OpGhost Tryz.prog .any ops Q (GP w0 L i0 j q t c) F i0 ⟨dst, .call { callee := .builtin .copy, args := #[x, y], argTypes := #[125, 125] }, ty, pos, aft, gd⟩ :=
 OpGhost.act (v := fun _ _ => iN .i64 4) (n := fun _ _ => 0) (W := fun _ w => w.setCells q 0 c.toList) hw (fun g _ => hp g 0) (fun g d w h hd0 _ => by
  have hG := h
  unfold GP at h
  rw [hd0, if_neg (by decide)] at h
  refine ⟨run_copy4 (hx g) (hy g) (h.get j hL) hs (h.get m hm) c hd hc h1, ?_⟩
  unfold GP
  rw [up_at, if_pos rfl]
  exact h.fill j hL (by rw [hd, hs]))
def G2 (w0 : World) (L : List (Nat × TypeId × Array Value)) (i0 j0 : Nat) (x0 : Nat × TypeId × Array Value) (i1 j1 : Nat) (x1 : Nat × TypeId × Array Value) (_ : Nat → Nat) (d : Nat → Bool) (w : World) : Prop :=
 HA w0 (if d i1 = true then (if d i0 = true then L.set j0 x0 else L).set j1 x1 else (if d i0 = true then L.set j0 x0 else L)) w
variable {j0 i1 j1 : Nat} {x0 x1 : Nat × TypeId × Array Value}
theorem G2.keep {g : Nat → Nat} {d : Nat → Bool} {w : World} (h : G2 w0 L i0 j0 x0 i1 j1 x1 g d w) (hi : i ≠ i0) (hi1 : i ≠ i1) : G2 w0 L i0 j0 x0 i1 j1 x1 g (up d i true) w := by
 unfold G2
 rw [up_ne _ _ (Ne.symm hi), up_ne _ _ (Ne.symm hi1)]
 exact h
theorem G2.get {g : Nat → Nat} {d : Nat → Bool} {w : World} (h : G2 w0 L i0 j0 x0 i1 j1 x1 g d w) (m : Nat) (hm : j0 ≠ m) (hm1 : j1 ≠ m) {x : Nat × TypeId × Array Value} (hx : L[m]? = some x) : Blk w x.1 x.2.1 x.2.2 := by
 unfold G2 at h
 refine h.get m ?_
 split <;> split <;> simp only [List.getElem?_set_ne hm, List.getElem?_set_ne hm1, hx]
theorem g2_load {x : Operand} {D : TypeDesc} {e : Nat × TypeId × Array Value} (m : Nat) (hm : L[m]? = some e) (h0 : j0 ≠ m) (h1 : j1 ≠ m) (hi : i ≠ i0) (hi1 : i ≠ i1)
  (hw : ∀ g, Region.wanted ⟨dst, .load T x, ty, pos, aft, gd⟩ (yielded ops (F g).tmps) = true) (hp : ∀ g, (F g).put dst (.agg e.2.2) = F g) (hx : ∀ g, (F g).eval x = .pointer (some ⟨e.1, 0, none⟩))
  (hu : Tryz.prog.underlying T = some D) (hd : D.isRow = true) (hz : (Tryz.prog.info? T).map (·.size) = some e.2.2.size) :
  OpGhost Tryz.prog .any ops Q (G2 w0 L i0 j0 x0 i1 j1 x1) F i ⟨dst, .load T x, ty, pos, aft, gd⟩ :=
 OpGhost.take (v := fun _ => .agg e.2.2) hw hp (fun g _ _ h _ => ⟨run_load_blk (hx := (hx g)) (h.get m h0 h1 hm) hu hd hz, h.keep hi hi1⟩)
theorem g2_fill0 {x y : Operand} {c0 : Array Value} (hL : L[j0]? = some (x0.1, x0.2.1, c0)) (hs : x0.2.2.size = c0.size) (hj : j1 ≠ j0) (hii : i1 ≠ i0) (hw : ∀ g, Region.wanted ⟨dst, .store T x y, ty, pos, aft, gd⟩ (yielded ops (F g).tmps) = true) (hp : ∀ g, (F g).put dst undef = F g)
  (hx : ∀ g, (F g).eval x = .pointer (some ⟨x0.1, 0, none⟩)) (hy : ∀ g, (F g).eval y = .agg x0.2.2) (hz : (Tryz.prog.info? T).map (·.size) = some x0.2.2.size) (h1 : x0.2.2.all (·.oneCell') = true) :
  OpGhost Tryz.prog .any ops Q (G2 w0 L i0 j0 x0 i1 j1 x1) F i0 ⟨dst, .store T x y, ty, pos, aft, gd⟩ :=
 OpGhost.skips (W := fun _ w => w.setCells x0.1 0 x0.2.2.toList) hw hp (fun g d w h hd _ => by
  unfold G2 at h ⊢
  have e0 : (if d i0 = true then L.set j0 x0 else L) = L := if_neg (by rw [hd]; decide)
  rw [e0] at h
  rw [up_at, if_pos rfl, up_ne _ _ hii]
  by_cases h2 : d i1 = true
  ·rw [if_pos h2] at h ⊢
   have hL2 : (L.set j1 x1)[j0]? = some (x0.1, x0.2.1, c0) := by rw [List.getElem?_set_ne hj]; exact hL
   refine ⟨run_store_blk (hx g) (hy g) (h.get (x := (x0.1, x0.2.1, c0)) j0 hL2) hs hz h1, ?_⟩
   rw [List.set_comm _ _ (Ne.symm hj)]
   exact h.fill j0 hL2 hs
  ·rw [if_neg h2] at h ⊢
   exact ⟨run_store_blk (hx g) (hy g) (h.get (x := (x0.1, x0.2.1, c0)) j0 hL) hs hz h1, h.fill j0 hL hs⟩)
theorem g2_fill1 {x y : Operand} {c0 : Array Value} (hL : L[j1]? = some (x1.1, x1.2.1, c0)) (hs : x1.2.2.size = c0.size) (hj : j0 ≠ j1) (hii : i0 ≠ i1) (hw : ∀ g, Region.wanted ⟨dst, .store T x y, ty, pos, aft, gd⟩ (yielded ops (F g).tmps) = true) (hp : ∀ g, (F g).put dst undef = F g)
  (hx : ∀ g, (F g).eval x = .pointer (some ⟨x1.1, 0, none⟩)) (hy : ∀ g, (F g).eval y = .agg x1.2.2) (hz : (Tryz.prog.info? T).map (·.size) = some x1.2.2.size) (h1 : x1.2.2.all (·.oneCell') = true) :
  OpGhost Tryz.prog .any ops Q (G2 w0 L i0 j0 x0 i1 j1 x1) F i1 ⟨dst, .store T x y, ty, pos, aft, gd⟩ :=
 OpGhost.skips (W := fun _ w => w.setCells x1.1 0 x1.2.2.toList) hw hp (fun g d w h hd _ => by
  unfold G2 at h ⊢
  rw [if_neg (by rw [hd]; decide)] at h
  rw [up_at, if_pos rfl, up_ne _ _ hii]
  have hL2 : (if d i0 = true then L.set j0 x0 else L)[j1]? = some (x1.1, x1.2.1, c0) := by
   split
   ·rw [List.getElem?_set_ne hj]; exact hL
   ·exact hL
  exact ⟨run_store_blk (hx g) (hy g) (h.get (x := (x1.1, x1.2.1, c0)) j1 hL2) hs hz h1, h.fill j1 hL2 hs⟩)
theorem G2.start {g : Nat → Nat} {d : Nat → Bool} {w : World} (h : HA w0 L w) (hd : d i0 = false) (hd1 : d i1 = false) : G2 w0 L i0 j0 x0 i1 j1 x1 g d w := by
 unfold G2
 rw [hd, hd1]
 exact h
end
set_option linter.unusedSimpArgs false in
theorem res_two {fn : Func} {p r : Tmp} {t t' ty : TypeId} {ts : Array Value} {w : World} {q s : Nat} {c c' : Array Value} {D : TypeDesc} {P : Program} (hf : fn.results = #[.cell p ty, .cell r ty]) (ht : ts.getD p undef = .pointer (some ⟨q, 0, none⟩)) (hv : ts.getD r undef = .pointer (some ⟨s, 0, none⟩)) (h : Blk w q t c) (h' : Blk w s t' c')
  (hu : P.underlying ty = some D) (hd : D.isRow = true) (hi : (P.info? ty).map (·.size) = some c.size) (hi' : (P.info? ty).map (·.size) = some c'.size) :
  (results fn ts).run P w = .ok (.tuple #[.agg c, .agg c']) w := by
 have e := run_loadVar_mid (P := P) w q 0 ty c.toList D h.range hu hd (by simpa using hi)
 have e' := run_loadVar_mid (P := P) w s 0 ty c'.toList D h'.range hu hd (by simpa using hi')
 have ht2 : ts[p]?.getD undef = .pointer (some ⟨q, 0, none⟩) := by simpa using ht
 have hv2 : ts[r]?.getD undef = .pointer (some ⟨s, 0, none⟩) := by simpa using hv
 simp [results, hf, Sem.run_bind, Sem.run_pure, Result.andThen_ok, asAddr, ht2, hv2, e, e']
end Go.Proofs.YtefjnfeckenmkaaGreatDoor.Sc
