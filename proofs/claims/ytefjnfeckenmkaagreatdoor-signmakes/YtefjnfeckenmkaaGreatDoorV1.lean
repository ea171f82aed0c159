/-
 A drawn region in which a call makes a closure, that is called: what it keeps lies where a number says. Nothing of a law.
-/
import Derived.Test.YtefjnfeckenmkaaGreatDoorCvA
import Derived.Test.YtefjnfeckenmkaaGreatDoorE1
namespace Go.Proofs.YtefjnfeckenmkaaGreatDoor
open Go.RowKit Num
/-! two numbers in one -/
def en2 (a b : Nat) : Nat := 2 ^ a * (2 * b + 1)
def d1F : Nat → Nat → Nat
 | 0, _ => 0
 | f + 1, n => if n % 2 = 1 then 0 else d1F f (n / 2) + 1
def de1 (n : Nat) : Nat := d1F n n
def de2 (n : Nat) : Nat := (n / 2 ^ de1 n - 1) / 2
theorem d1F_of (b : Nat) : ∀ a f, a < f → d1F f (en2 a b) = a
 | 0, f + 1, _ => by
  unfold d1F en2
  rw [if_pos (by omega)]
 | a + 1, f + 1, h => by
  have e : en2 (a + 1) b = 2 * en2 a b := by
   unfold en2
   rw [Nat.pow_succ, Nat.mul_comm (2 ^ a) 2, Nat.mul_assoc]
  rw [e, d1F, if_neg (by omega), Nat.mul_div_cancel_left _ (by decide), d1F_of b a f (by omega)]
theorem de1_of (a b : Nat) : de1 (en2 a b) = a := by
 refine d1F_of b a _ ?_
 unfold en2
 have h1 : a < 2 ^ a := Nat.lt_two_pow_self
 have h2 : 2 ^ a * 1 ≤ 2 ^ a * (2 * b + 1) := Nat.mul_le_mul_left _ (by omega)
 omega
theorem de2_of (a b : Nat) : de2 (en2 a b) = b := by
 unfold de2
 rw [de1_of]
 unfold en2
 rw [Nat.mul_div_cancel_left _ (Nat.two_pow_pos a)]
 omega
def en4 (a b c d : Nat) : Nat := en2 a (en2 b (en2 c d))
def p1 (n : Nat) : Nat := de1 n
def p2 (n : Nat) : Nat := de1 (de2 n)
def p3 (n : Nat) : Nat := de1 (de2 (de2 n))
def p4 (n : Nat) : Nat := de2 (de2 (de2 n))
theorem p1_of (a b c d : Nat) : p1 (en4 a b c d) = a := de1_of _ _
theorem p2_of (a b c d : Nat) : p2 (en4 a b c d) = b := by unfold p2 en4; rw [de2_of, de1_of]
theorem p3_of (a b c d : Nat) : p3 (en4 a b c d) = c := by unfold p3 en4; rw [de2_of, de2_of, de1_of]
theorem p4_of (a b c d : Nat) : p4 (en4 a b c d) = d := by unfold p4 en4; rw [de2_of, de2_of, de2_of]
structure GA (w0 : World) (L : List (Nat × TypeId × Array Value)) (i1 i0 j q : Nat) (t : TypeId) (c : Array Value) (Cp : Nat → World → Prop) (g : Nat → Nat) (d : Nat → Bool) (w : World) : Prop where
 held : HA w0 (if d i0 = true then L.set j (q, t, c) else L) w
 all : d i0 = true → ∀ m, m < i0 → d m = true
 cap : d i1 = true → d i0 = false → Cp (g i1) w
section
variable {ops : Array Oper} {Q : Exit → Act → World → Prop} {F : (Nat → Nat) → Act} {i i0 i1 j q : Nat} {dst : Option Tmp} {T ty : TypeId} {pos : String} {aft : Array Edge} {gd : Option (Nat × Bool)}
 {w0 : World} {L : List (Nat × TypeId × Array Value)} {t : TypeId} {c : Array Value} {Cp : Nat → World → Prop}
theorem GA.low {g : Nat → Nat} {d : Nat → Bool} {w : World} (h : GA w0 L i1 i0 j q t c Cp g d w) (hi : i < i0) (hd : d i = false) : d i0 = false := by
 cases h0 : d i0 with
 | false => rfl
 | true => rw [h.all h0 i hi] at hd; cases hd
theorem GA.keep {g : Nat → Nat} {d : Nat → Bool} {w w' : World} (hC : ∀ n w w', Cp n w → Below w.heap.size w w' → Cp n w') (h : GA w0 L i1 i0 j q t c Cp g d w) (hi : i < i0) (hi1 : i ≠ i1) (hb : Below w.heap.size w w') : GA w0 L i1 i0 j q t c Cp g (up d i true) w' :=
 ⟨by rw [up_ne _ _ (by omega)]; exact h.held.keep _ _ hb, fun h0 m hm => by
  rw [up_ne _ _ (by omega)] at h0
  exact up_true (h.all h0 m hm), fun h1 h0 => by
  rw [up_ne _ _ (Ne.symm hi1)] at h1
  rw [up_ne _ _ (by omega)] at h0
  exact hC _ _ _ (h.cap h1 h0) hb⟩
theorem ga_load {x : Operand} {D : TypeDesc} {e : Nat × TypeId × Array Value} (hC : ∀ n w w', Cp n w → Below w.heap.size w w' → Cp n w') (m : Nat) (hm : L[m]? = some e)  
   
  (hu : Tryz.prog.underlying T = some D) (hd : D.isRow = true) (hz : (Tryz.prog.info? T).map (·.size) = some e.2.2.size) (hi : i < i0 := by decide) (hi1 : i ≠ i1 := by decide) (hw : ∀ g, Region.wanted ⟨dst, .load T x, ty, pos, aft, gd⟩ (yielded ops (F g).tmps) = true := by intro _; kernel_rfl) (hp : ∀ g, (F g).put dst (.agg e.2.2) = F g := by intro _; kernel_rfl) (hx : ∀ g, (F g).eval x = .pointer (some ⟨e.1, 0, none⟩) := by intro _; kernel_rfl) :
  OpGhost Tryz.prog .any ops Q (GA w0 L i1 i0 j q t c Cp) F i ⟨dst, .load T x, ty, pos, aft, gd⟩ := fun g d w h hdi _ => by
 rw [if_pos (hw g)]
 unfold Oper.wp
 have hH := h.held
 rw [h.low hi hdi, if_neg (by decide)] at hH
 rw [run_load_blk (hx := (hx g)) (hH.get m hm) hu hd hz]
 exact ⟨g i, by rw [up_self]; exact hp g, by rw [up_self]; exact h.keep hC hi hi1 (Below.refl _ w)⟩
theorem ga_call {f : FuncId} {xs : Array Operand} {ats : Array TypeId} {v : Value} (hC : ∀ n w w', Cp n w → Below w.heap.size w w' → Cp n w')  
  
  (hr : ∀ args w, (callFunc f args).run Tryz.prog w = .ok (.enter f args) w) (args : Array Value) 
  (hc : ∀ w, Below w0.heap.size w0 w → Calls Tryz.prog f args w fun e w' => e = .returned v ∧ Below w.heap.size w w') (hi : i < i0 := by decide) (hi1 : i ≠ i1 := by decide) (hw : ∀ g, Region.wanted ⟨dst, .call { callee := .value (.func f), args := xs, argTypes := ats }, ty, pos, aft, gd⟩ (yielded ops (F g).tmps) = true := by intro _; kernel_rfl) (hp : ∀ g, (F g).put dst v = F g := by intro _; kernel_rfl) (ha : ∀ g, #[] ++ xs.map (F g).eval ++ #[] = args := by intro _; kernel_rfl) :
  OpGhost Tryz.prog .any ops Q (GA w0 L i1 i0 j q t c Cp) F i ⟨dst, .call { callee := .value (.func f), args := xs, argTypes := ats }, ty, pos, aft, gd⟩ :=
 OpGhost.call (v := fun _ => v) (args := fun _ => args) hw hp (fun g w => by rw [execOp_call_go, ha g]; exact hr _ w) (fun _ _ w hS _ => (hc w hS.held.old).mono fun _ _ h => ⟨h.1, hS.keep hC hi hi1 h.2⟩)
theorem ga_make {f : FuncId} {xs : Array Operand} {ats : Array TypeId} {v : Nat → Value} (hi : i1 < i0)
  (hw : ∀ g, Region.wanted ⟨dst, .call { callee := .value (.func f), args := xs, argTypes := ats }, ty, pos, aft, gd⟩ (yielded ops (F g).tmps) = true) (hp : ∀ g n, (F g).put dst (v n) = F (up g i1 n))
  (hr : ∀ args w, (callFunc f args).run Tryz.prog w = .ok (.enter f args) w) (args : Array Value) (ha : ∀ g, #[] ++ xs.map (F g).eval ++ #[] = args)
  (hc : ∀ w, Below w0.heap.size w0 w → Calls Tryz.prog f args w fun e w' => ∃ n, e = .returned (v n) ∧ Cp n w' ∧ Below w.heap.size w w') :
  OpGhost Tryz.prog .any ops Q (GA w0 L i1 i0 j q t c Cp) F i1 ⟨dst, .call { callee := .value (.func f), args := xs, argTypes := ats }, ty, pos, aft, gd⟩ := fun g d w h hd _ => by
 rw [if_pos (hw g)]
 unfold Oper.wp
 rw [execOp_call_go, ha g, hr]
 refine (hc w h.held.old).mono ?_
 rintro e w' ⟨n, rfl, hn, hb⟩
 have h0 := h.low hi hd
 refine ⟨n, hp g n, ?_, ?_, ?_⟩
 ·rw [up_ne _ _ (by omega)]
  exact h.held.keep _ _ hb
 ·intro h2
  rw [up_ne _ _ (by omega), h0] at h2
  cases h2
 ·intro _ _
  rw [up_at]
  exact hn
theorem ga_callv {f : FuncId} {x : Operand} {xs : Array Operand} {ats : Array TypeId} {v : Value} {cap : Nat → Array Value} (hC : ∀ n w w', Cp n w → Below w.heap.size w w' → Cp n w') (hi : i < i0) (hi1 : i ≠ i1)
  (he : (aft.any fun e => Region.binds .any e && e.on == i1) = true)
  (hw : ∀ g, Region.wanted ⟨dst, .call { callee := .value x, args := xs, argTypes := ats }, ty, pos, aft, gd⟩ (yielded ops (F g).tmps) = true) (hp : ∀ g, (F g).put dst v = F g)
  (hr : ∀ args w, (callFunc f args).run Tryz.prog w = .ok (.enter f args) w) (hx : ∀ g, (F g).eval x = .func (.func f) #[] (cap (g i1))) (args : Nat → Array Value) (ha : ∀ g, #[] ++ xs.map (F g).eval ++ cap (g i1) = args (g i1))
  (hc : ∀ n w, Below w0.heap.size w0 w → Cp n w → Calls Tryz.prog f (args n) w fun e w' => e = .returned v ∧ Below w.heap.size w w') :
  OpGhost Tryz.prog .any ops Q (GA w0 L i1 i0 j q t c Cp) F i ⟨dst, .call { callee := .value x, args := xs, argTypes := ats }, ty, pos, aft, gd⟩ := fun g d w h hd haft => by
 obtain ⟨m, hm, h3⟩ := Array.any_eq_true.1 he
 rw [Bool.and_eq_true, beq_iff_eq] at h3
 have h1 : d i1 = true := by rw [← h3.2]; exact haft _ (Array.getElem_mem hm) h3.1
 rw [if_pos (hw g)]
 unfold Oper.wp
 rw [run_callv hr (hx g) (ha g)]
 refine (hc _ w h.held.old (h.cap h1 (h.low hi hd))).mono ?_
 rintro e w' ⟨rfl, hb⟩
 exact ⟨g i, by rw [up_self]; exact hp g, by rw [up_self]; exact h.keep hC hi hi1 hb⟩
theorem ga_fill {x y : Operand} {c0 : Array Value} (hL : L[j]? = some (q, t, c0)) (hs : c.size = c0.size) (hw : ∀ g, Region.wanted ⟨dst, .store T x y, ty, pos, aft, gd⟩ (yielded ops (F g).tmps) = true) (hp : ∀ g, (F g).put dst undef = F g)
  (hx : ∀ g, (F g).eval x = .pointer (some ⟨q, 0, none⟩)) (hy : ∀ g, (F g).eval y = .agg c) (hz : (Tryz.prog.info? T).map (·.size) = some c.size) (h1 : c.all (·.oneCell') = true)
  (he : ((List.range i0).all fun m => aft.any fun e => Region.binds .any e && e.on == m) = true) :
  OpGhost Tryz.prog .any ops Q (GA w0 L i1 i0 j q t c Cp) F i0 ⟨dst, .store T x y, ty, pos, aft, gd⟩ :=
 OpGhost.skips (W := fun _ w => w.setCells q 0 c.toList) hw hp (fun g d w h hd haft => by
  have hH := h.held
  rw [hd, if_neg (by decide)] at hH
  refine ⟨run_store_blk (hx g) (hy g) (hH.get j hL) hs hz h1, by rw [up_at, if_pos rfl]; exact hH.fill j hL hs, fun _ m hm => ?_, fun _ h0 => ?_⟩
  ·have h2 := List.all_eq_true.1 he m (List.mem_range.2 hm)
   obtain ⟨k, hk, h3⟩ := Array.any_eq_true.1 h2
   rw [Bool.and_eq_true, beq_iff_eq] at h3
   exact up_true (by rw [← h3.2]; exact haft _ (Array.getElem_mem hk) h3.1)
  ·rw [up_at] at h0
   cases h0)
theorem GA.start {g : Nat → Nat} {d : Nat → Bool} {w : World} (h : HA w0 L w) (hd : d i0 = false) (hd1 : d i1 = false) : GA w0 L i1 i0 j q t c Cp g d w := ⟨by rw [hd]; exact h, fun h0 => (by rw [hd] at h0; cases h0), fun h1 => (by rw [hd1] at h1; cases h1)⟩
end
def Kept (u v t z : Nat) (n : Nat) (w : World) : Prop := Blk w (p1 n) 37 (el u) ∧ Blk w (p2 n) 37 (el v) ∧ Blk w (p3 n) 37 (el t) ∧ Blk w (p4 n) 37 (el z)
theorem Kept.keep {u v t z : Nat} (n : Nat) (w w' : World) (h : Kept u v t z n w) (hb : Below w.heap.size w w') : Kept u v t z n w' := ⟨h.1.keep hb, h.2.1.keep hb, h.2.2.1.keep hb, h.2.2.2.keep hb⟩
end Go.Proofs.YtefjnfeckenmkaaGreatDoor

namespace Go.Proofs.YtefjnfeckenmkaaGreatDoor
set_option linter.unusedVariables false
set_option maxRecDepth 100000
set_option maxHeartbeats 2000000
open Go.RowKit Num
section
variable {ops : Array Oper} {Q : Exit → Act → World → Prop} {a : Act} {w w0 : World} {L : List (Nat × TypeId × Array Value)} {rest : List Oper} {dst : Option Tmp} {ty : TypeId} {pos : String} {aft : Array Edge} {gd : Option (Nat × Bool)} {x : Operand}
theorem wl_callv {f : FuncId} {xs : Array Operand} {ats : Array TypeId} {cap : Array Value} {v : Value} (H : HA w0 L w) 
  (hr : ∀ args w, (callFunc f args).run Tryz.prog w = .ok (.enter f args) w)  (args : Array Value)  (hc : Calls Tryz.prog f args w fun e w' => e = .returned v ∧ Below w.heap.size w w')
  (h : ∀ w', HA w0 L w' → WL Tryz.prog ops Q rest (a.put dst v) w') (hw : Region.wanted ⟨dst, .call { callee := .value x, args := xs, argTypes := ats }, ty, pos, aft, gd⟩ (yielded ops a.tmps) = true := by kernel_rfl) (hx : a.eval x = .func (.func f) #[] cap := by kernel_rfl) (ha : #[] ++ xs.map a.eval ++ cap = args := by kernel_rfl) : WL Tryz.prog ops Q (⟨dst, .call { callee := .value x, args := xs, argTypes := ats }, ty, pos, aft, gd⟩ :: rest) a w := by
 refine ⟨?_⟩
 unfold wpList
 rw [if_pos hw]
 refine .inl ?_
 unfold Oper.wp
 rw [run_callv hr hx ha]
 refine hc.mono ?_
 rintro e w' ⟨rfl, hb⟩
 exact (h w' (H.keep _ _ hb)).out
theorem wl_callq {f : FuncId} {xs : Array Operand} {ats : Array TypeId} {R : Value → World → Prop} (H : HA w0 L w) (hw : Region.wanted ⟨dst, .call { callee := .value (.func f), args := xs, argTypes := ats }, ty, pos, aft, gd⟩ (yielded ops a.tmps) = true)
  (hr : ∀ args w, (callFunc f args).run Tryz.prog w = .ok (.enter f args) w) (args : Array Value) (ha : #[] ++ xs.map a.eval ++ #[] = args) (hc : Calls Tryz.prog f args w fun e w' => ∃ v, e = .returned v ∧ R v w' ∧ Below w.heap.size w w')
  (h : ∀ v w', R v w' → HA w0 L w' → WL Tryz.prog ops Q rest (a.put dst v) w') : WL Tryz.prog ops Q (⟨dst, .call { callee := .value (.func f), args := xs, argTypes := ats }, ty, pos, aft, gd⟩ :: rest) a w := by
 refine ⟨?_⟩
 unfold wpList
 rw [if_pos hw]
 refine .inl ?_
 unfold Oper.wp
 rw [execOp_call_go, ha, hr]
 refine hc.mono ?_
 rintro e w' ⟨v, rfl, hv, hb⟩
 exact (h v w' hv (H.keep _ _ hb)).out
end
def aE (u v a b : Nat) : Nat := subP (mulP (addP b a) u) (mulP (subP b a) v)
def aH (u v a b : Nat) : Nat := addP (mulP (addP b a) u) (mulP (subP b a) v)
def aF (t z c d : Nat) : Nat := subP (mulP c t) (mulP d z)
def aG (t z c d : Nat) : Nat := addP (mulP c t) (mulP d z)
def suA (c d : Nat) : Nat := mulP (addP (addP d 1) c) 121666
def leA (c d : Nat) : Nat := mulP (subP (addP d 1) c) 121666
def tuA (c d : Nat) : Nat := negP (mulP (mulP c (addP d 1)) 243330)
structure Q4 where
 X : Nat
 Y : Nat
 Z : Nat
 T : Nat
def Q4.lt (q : Q4) : Prop := q.X < P ∧ q.Y < P ∧ q.Z < P ∧ q.T < P
def crQ (e f g h : Nat) : Q4 := ⟨mulP e f, mulP g h, mulP f g, mulP e h⟩
theorem crQ_lt (e f g h : Nat) : (crQ e f g h).lt := ⟨mulP_lt _ _, mulP_lt _ _, mulP_lt _ _, mulP_lt _ _⟩
def adQ (c d : Nat) (q : Q4) : Q4 := crQ (aE (suA c d) (leA c d) q.X q.Y) (aF 243332 (tuA c d) q.Z q.T) (aG 243332 (tuA c d) q.Z q.T) (aH (suA c d) (leA c d) q.X q.Y)
def dbQ (q : Q4) : Q4 := crQ (subP (mulP (addP q.X q.Y) (addP q.X q.Y)) (addP (mulP q.X q.X) (mulP q.Y q.Y))) (subP (subP (mulP q.Y q.Y) (mulP q.X q.X)) (addP (mulP q.Z q.Z) (mulP q.Z q.Z))) (subP (mulP q.Y q.Y) (mulP q.X q.X)) (negP (addP (mulP q.X q.X) (mulP q.Y q.Y)))
def wiQ (a b : Nat) : Q4 := ⟨a, addP b 1, 1, mulP a (addP b 1)⟩
theorem wiQ_lt (a b : Nat) (ha : a < P) : (wiQ a b).lt := ⟨ha, addP_lt _ _, show 1 < P by decide, mulP_lt _ _⟩
def qq (q : Q4) : Array Value := qd q.X q.Y q.Z q.T
def pX (q : Q4) : Nat := mulP q.X (invE q.Z)
def pR (q : Q4) : Nat := subP (mulP q.Y (invE q.Z)) 1
theorem asum_q (c d : Nat) (q : Q4) (hq : q.lt) (qu qv qt qz : Nat) (w : World) (VV : Vars w) (hqu : Blk w qu 37 (el (suA c d))) (hqv : Blk w qv 37 (el (leA c d))) (hqt : Blk w qt 37 (el 243332)) (hqz : Blk w qz 37 (el (tuA c d))) :
  Calls Tryz.prog 91 #[.agg (qq q), .pointer (some ⟨qu, 0, none⟩), .pointer (some ⟨qv, 0, none⟩), .pointer (some ⟨qt, 0, none⟩), .pointer (some ⟨qz, 0, none⟩)] w fun e w' => e = .returned (.agg (qq (adQ c d q))) ∧ Below w.heap.size w w' :=
 asum_any q.X q.Y q.Z q.T hq.1 hq.2.1 hq.2.2.1 hq.2.2.2 (suA c d) qu (mulP_lt _ _) (leA c d) qv (mulP_lt _ _) 243332 qt (by decide) (tuA c d) qz (negP_lt _) w VV hqu hqv hqt hqz
theorem double_q (q : Q4) (hq : q.lt) (w : World) (VV : Vars w) : Calls Tryz.prog 49 #[.agg (qq q)] w fun e w' => e = .returned (.agg (qq (dbQ q))) ∧ Below w.heap.size w w' :=
 wdouble_any q.X q.Y q.Z q.T hq.1 hq.2.1 hq.2.2.1 hq.2.2.2 w VV
theorem wide_q (a b : Nat) (ha : a < P) (hb : b < P) (w : World) (VV : Vars w) : Calls Tryz.prog 48 #[.agg (pr a b)] w fun e w' => e = .returned (.agg (qq (wiQ a b))) ∧ Below w.heap.size w w' := wide_any a b ha hb w VV
theorem point_q (q : Q4) (hq : q.lt) (w : World) (VV : Vars w) : Calls Tryz.prog 51 #[.agg (qq q)] w fun e w' => e = .returned (.agg (pr (pX q) (pR q))) ∧ Below w.heap.size w w' :=
 point_any q.X q.Y q.Z q.T hq.1 hq.2.1 hq.2.2.1 hq.2.2.2 w VV
theorem adder_q (c d : Nat) (hc : c < P) (hd : d < P) (w : World) (VV : Vars w) : Calls Tryz.prog 46 #[.agg (pr c d)] w fun e w' => ∃ n, e = .returned (.func (.func 91) #[] #[.pointer (some ⟨p1 n, 0, none⟩), .pointer (some ⟨p2 n, 0, none⟩), .pointer (some ⟨p3 n, 0, none⟩), .pointer (some ⟨p4 n, 0, none⟩)]) ∧ Kept (suA c d) (leA c d) 243332 (tuA c d) n w' ∧ Below w.heap.size w w' := by
 refine (adder_any c d hc hd w VV).mono ?_
 rintro e w' ⟨qu, qv, qt, qz, rfl, h1, h2, h3, h4, hb⟩
 refine ⟨en4 qu qv qt qz, ?_, ?_, hb⟩
 ·rw [p1_of, p2_of, p3_of, p4_of]
 ·unfold Kept
  rw [p1_of, p2_of, p3_of, p4_of]
  exact ⟨h1, h2, h3, h4⟩
theorem one_qq (q : Q4) : (qq q).all (·.oneCell') = true := one_qd q.X q.Y q.Z q.T
theorem qq_sz (q r : Q4) : (qq q).size = (qq r).size := qd_sz q.X q.Y q.Z q.T r.X r.Y r.Z r.T
theorem info82qq (q : Q4) : (Tryz.prog.info? 68).map (·.size) = some (qq q).size := info82q q.X q.Y q.Z q.T
theorem PAdd_any (a b c d : Nat) (ha : a < P) (hb : b < P) (hc : c < P) (hd : d < P) (w : World) (VV : Vars w) :
  Calls Tryz.prog 30 #[.agg (pr a b), .agg (pr c d)] w fun e w' => e = .returned (.agg (pr (pX (adQ c d (wiQ a b))) (pR (adQ c d (wiQ a b))))) ∧ Below w.heap.size w w' := by
 have H0 := HA.start w
 go_enter Tryz.func30, Tryz.ntmps30
 refine zsr ?_
 refine wl_make H0 39 (run_box27 (c := pr a b)) ?_
 intro q1 w2 h3
 refine wl_make h3 39 (run_box27 (c := pr c d)) ?_
 intro q4 w5 h6
 refine wl_make h6 39 run_alloc27 ?_
 intro q7 w8 h9
 refine znt ?_
 refine wp_seq ?_
 refine zrg (fun g : Nat → Nat => (⟨(.agg (pr a b) :: .agg (pr c d) :: pt q1 :: pt q4 :: pt q7 :: .agg (pr c d) :: .func (.func 91) #[] #[pt (p1 (g 1)), pt (p2 (g 1)), pt (p3 (g 1)), pt (p4 (g 1))] :: .agg (pr a b) :: .agg (qq (wiQ a b)) :: .agg (qq (adQ c d (wiQ a b))) :: .agg (pr (pX (adQ c d (wiQ a b))) (pR (adQ c d (wiQ a b)))) :: List.replicate 0 un).toArray, []⟩ : Act)) (GA w [(q7, 39, pr 0 0), (q4, 39, pr c d), (q1, 39, pr a b)] 1 6 0 q7 39 (pr (pX (adQ c d (wiQ a b))) (pR (adQ c d (wiQ a b)))) (Kept (suA c d) (leA c d) 243332 (tuA c d))) (fun dd hdd => GA.start h9.drew (hdd 6 (by decide)) (hdd 1 (by decide))) ?_ ?_
 ·refine zg (ga_load Kept.keep 1 rfl Tryz.underlying39 rfl (info27p c d)) ?_
  refine zg (ga_make (v := fun n => .func (.func 91) #[] #[.pointer (some ⟨p1 n, 0, none⟩), .pointer (some ⟨p2 n, 0, none⟩), .pointer (some ⟨p3 n, 0, none⟩), .pointer (some ⟨p4 n, 0, none⟩)]) (by decide) (fun _ => by kernel_rfl) (fun _ _ => by kernel_rfl) enter55 #[.agg (pr c d)] (fun _ => by kernel_rfl) (fun w' ho => adder_q c d hc hd w' (VV.below ho VV.big))) ?_
  refine zg (ga_load Kept.keep 2 rfl Tryz.underlying39 rfl (info27p a b)) ?_
  refine zg (ga_call (v := .agg (qq (wiQ a b))) Kept.keep enter56 #[.agg (pr a b)] (fun w' ho => wide_q a b ha hb w' (VV.below ho VV.big))) ?_
  refine zg (ga_callv (v := .agg (qq (adQ c d (wiQ a b)))) (cap := fun n => #[.pointer (some ⟨p1 n, 0, none⟩), .pointer (some ⟨p2 n, 0, none⟩), .pointer (some ⟨p3 n, 0, none⟩), .pointer (some ⟨p4 n, 0, none⟩)]) Kept.keep (by decide) (by decide) (by kernel_rfl) (fun _ => by kernel_rfl) (fun _ => by kernel_rfl) enter91 (fun _ => by kernel_rfl) (fun n => #[.agg (qq (wiQ a b)), .pointer (some ⟨p1 n, 0, none⟩), .pointer (some ⟨p2 n, 0, none⟩), .pointer (some ⟨p3 n, 0, none⟩), .pointer (some ⟨p4 n, 0, none⟩)]) (fun _ => by kernel_rfl) (fun n w' ho hk => asum_q c d (wiQ a b) (wiQ_lt a b ha) (p1 n) (p2 n) (p3 n) (p4 n) w' (VV.below ho VV.big) hk.1 hk.2.1 hk.2.2.1 hk.2.2.2)) ?_
  refine zg (ga_call (v := .agg (pr (pX (adQ c d (wiQ a b))) (pR (adQ c d (wiQ a b))))) Kept.keep enter57 #[.agg (qq (adQ c d (wiQ a b)))] (fun w' ho => point_q (adQ c d (wiQ a b)) (crQ_lt _ _ _ _) w' (VV.below ho VV.big))) ?_
  refine zg (ga_fill rfl (pr_sz (pX (adQ c d (wiQ a b))) (pR (adQ c d (wiQ a b))) 0 0) (fun _ => by kernel_rfl) (fun _ => by kernel_rfl) (fun _ => by kernel_rfl) (fun _ => by kernel_rfl) (info27p (pX (adQ c d (wiQ a b))) (pR (adQ c d (wiQ a b)))) (one_pr (pX (adQ c d (wiQ a b))) (pR (adQ c d (wiQ a b)))) (by kernel_rfl)) ?_
  exact AllGhost.nil
 intro g w10 g11
 have h12 : HA w [(q7, 39, pr (pX (adQ c d (wiQ a b))) (pR (adQ c d (wiQ a b)))), (q4, 39, pr c d), (q1, 39, pr a b)] w10 := g11.held
 clear g11
 refine then_at rfl ?_
 refine wp_ret ?_
 repeat first | refine then_ret ?_ | refine block_ret ?_
 exact bodyPost_ret (res_cell (p := 4) (by kernel_rfl) (by kernel_rfl) (h12.get 0 rfl) Tryz.underlying39 rfl (info27p (pX (adQ c d (wiQ a b))) (pR (adQ c d (wiQ a b))))) rfl ⟨rfl, h12.old⟩
def muQ (s : ByteArray) (a b : Nat) : Nat → Q4
 | 0 => wiQ 0 0
 | k + 1 => if numS s / 2 ^ (255 - k) % 2 = 1 then adQ a b (dbQ (muQ s a b k)) else dbQ (muQ s a b k)
theorem muQ_lt (s : ByteArray) (a b : Nat) : ∀ k, (muQ s a b k).lt
 | 0 => wiQ_lt 0 0 (by decide)
 | k + 1 => by
  unfold muQ
  split
  ·exact crQ_lt _ _ _ _
  ·exact crQ_lt _ _ _ _
theorem muQ_one (s : ByteArray) (a b k : Nat) (h : numS s / 2 ^ (255 - k) % 2 = 1) : adQ a b (dbQ (muQ s a b k)) = muQ s a b (k + 1) := by rw [muQ, if_pos h]
theorem muQ_nil (s : ByteArray) (a b k : Nat) (h : ¬ numS s / 2 ^ (255 - k) % 2 = 1) : dbQ (muQ s a b k) = muQ s a b (k + 1) := by rw [muQ, if_neg h]
theorem PMul_any (s : ByteArray) (a b : Nat) (ha : a < P) (hb : b < P) (w : World) (VV : Vars w) :
  Calls Tryz.prog 17 #[.agg (pr a b), .string s] w fun e w' => e = .returned (.agg (if s.size = 32 then pr (pX (muQ s a b 256)) (pR (muQ s a b 256)) else pr 0 0)) ∧ Below w.heap.size w w' := by
 have H0 := HA.start w
 go_enter Tryz.func17, Tryz.ntmps17
 refine zsr ?_
 refine wl_make H0 39 (run_box27 (c := pr a b)) ?_
 intro q1 w2 h3
 refine wl_make h3 39 run_alloc27 ?_
 intro q4 w5 h6
 refine znt ?_
 refine wp_seq ?_
 refine wp_seq ?_
 by_cases hs : s.size ≠ 32
 · -- region 1
  refine wl_region ?_
  refine zwv (.string s) ?_
  refine zwu (run_len (s := s)) ?_
  refine zwu (run_nei (k := .i64) (a := s.size) (b := 32) true (decide_eq_true hs)) ?_
  refine znt ?_
  refine zct ?_
  refine zsr ?_
  refine zwu run_build27z ?_
  refine wl_fill (c' := pr 0 0) h6 0 rfl (pr_sz 0 0 0 0) (info27p 0 0) (one_pr 0 0) ?_
  intro w7 (h8 : HA w [(q4, 39, pr 0 0), (q1, 39, pr a b)] w7)
  refine znt ?_
  refine wp_ret ?_
  repeat first | refine then_ret ?_ | refine block_ret ?_
  exact bodyPost_ret (v := .agg (pr 0 0)) (res_cell (p := 4) (by kernel_rfl) (by kernel_rfl) (h8.get 0 rfl) Tryz.underlying39 rfl (info27p 0 0)) rfl ⟨(by rw [if_neg hs]), h8.old⟩
 ·have hsz : s.size = 32 := Decidable.not_not.1 hs
  refine wl_region ?_
  refine zwv (.string s) ?_
  refine zwu (run_len (s := s)) ?_
  refine zwu (run_nei (k := .i64) (a := s.size) (b := 32) false (decide_eq_false hs)) ?_
  refine znt ?_
  refine zcf ?_
  refine wp_skip ?_
  refine then_at rfl ?_
  refine zsr ?_
  refine wl_load h6 1 rfl Tryz.underlying39 rfl (info27p a b) ?_
  refine wl_callq (R := fun v w' => ∃ n, v = .func (.func 91) #[] #[.pointer (some ⟨p1 n, 0, none⟩), .pointer (some ⟨p2 n, 0, none⟩), .pointer (some ⟨p3 n, 0, none⟩), .pointer (some ⟨p4 n, 0, none⟩)] ∧ Kept (suA a b) (leA a b) 243332 (tuA a b) n w') h6 (by kernel_rfl) enter55 #[.agg (pr a b)] (by kernel_rfl) ((adder_q a b ha hb w5 (VV.below h6.old VV.big)).mono fun e w' h => h.elim fun n h => ⟨_, h.1, ⟨n, rfl, h.2.1⟩, h.2.2⟩) ?_
  rintro _ w9 ⟨n, rfl, hkp⟩ h10
  refine zwv (.func (.func 91) #[] #[.pointer (some ⟨p1 n, 0, none⟩), .pointer (some ⟨p2 n, 0, none⟩), .pointer (some ⟨p3 n, 0, none⟩), .pointer (some ⟨p4 n, 0, none⟩)]) ?_
  refine znt ?_
  refine wp_seq ?_
  have VX : Vars w9 := VV.below h10.old VV.big
  have HX := HA.start w9
  refine wl_region ?_
  refine zwc HX enter29 (None_any w9) ?_
  intro w11 h12
  refine zwc h12 enter56 (wide_q 0 0 (by decide) (by decide) w11 (VX.below h12.old VX.big)) ?_
  intro w13 h14
  refine wl_make h14 68 run_alloc82 ?_
  intro q15 w16 h17
  refine wl_fill (c' := qq (wiQ 0 0)) h17 0 rfl (qq_sz (wiQ 0 0) ((Q4.mk 0 0 0 0))) (info82qq (wiQ 0 0)) (one_qq (wiQ 0 0)) ?_
  intro w18 (h19 : HA w9 [(q15, 68, qq (wiQ 0 0))] w18)
  refine znt ?_
  refine wp_seq ?_
  refine zsr ?_
  refine zwv (iN .i64 0) ?_
  refine znt ?_
  refine wp_block ?_
  refine wp_count (fun k A w' => ∃ u20 : Nat → Value, A = ⟨(.agg (pr a b) :: .string s :: pt q1 :: un :: pt q4 :: .func (.func 91) #[] #[pt (p1 n), pt (p2 n), pt (p3 n), pt (p4 n)] :: pt q15 :: u20 7 :: .string s :: iN .i64 s.size :: .bool false :: un :: .agg (pr a b) :: .func (.func 91) #[] #[pt (p1 n), pt (p2 n), pt (p3 n), pt (p4 n)] :: .agg (pr 0 0) :: .agg (qq (wiQ 0 0)) :: iN .i64 k :: u20 17 :: u20 18 :: u20 19 :: u20 20 :: u20 21 :: u20 22 :: u20 23 :: u20 24 :: u20 25 :: u20 26 :: u20 27 :: u20 28 :: List.replicate 2 un).toArray, []⟩ ∧ HA w9 [(q15, 68, qq (muQ s a b k))] w') 256 ?_ ?_ ?_
  ·exact zex h19
  ·rintro k hk _ w21 ⟨u20, rfl, h22⟩
   refine zsr ?_
   refine zwu (run_lss (k := .i64) (a := k) (b := 256) true (decide_eq_true hk)) ?_
   refine znt ?_
   refine wp_seq ?_
   refine zct ?_
   refine wp_skip ?_
   refine then_at rfl ?_
   refine wp_seq ?_
   refine wp_block ?_
   refine zsr ?_
   refine zwv (iN .i64 k) ?_
   refine zwv (iN .i64 k) ?_
   refine znt ?_
   refine zsr ?_
   refine wl_load h22 0 rfl Tryz.underlying68 rfl (info82qq (muQ s a b k)) ?_
   refine zwc h22 enter61 (double_q (muQ s a b k) (muQ_lt s a b k) w21 (VX.below h22.old VX.big)) ?_
   intro w23 h24
   refine wl_fill (c' := qq (dbQ (muQ s a b k))) h24 0 rfl (qq_sz (dbQ (muQ s a b k)) (muQ s a b k)) (info82qq (dbQ (muQ s a b k))) (one_qq (dbQ (muQ s a b k))) ?_
   intro w25 (h26 : HA w9 [(q15, 68, qq (dbQ (muQ s a b k)))] w25)
   refine znt ?_
   refine wp_seq ?_
   by_cases hbit : numS s / 2 ^ (255 - k) % 2 = 1
   · -- region 9
    refine wl_region ?_
    refine zwv (.string s) ?_
    refine zwv (iN .i64 k) ?_
    refine zwu (run_sub (k := .i64) (a := 255) (b := k) (by omega) (by simp only [top]; omega)) ?_
    refine wl_call (v := .bool true) h26 enter62 #[.string s, iN .i64 (255 - k)] ((by have hz := bit_any s (255 - k) hsz (by omega) w25; rw [decide_eq_true hbit] at hz; exact hz)) ?_
    intro w27 h28
    refine znt ?_
    refine zct ?_
    refine wl_region ?_
    refine zwv (.func (.func 91) #[] #[.pointer (some ⟨p1 n, 0, none⟩), .pointer (some ⟨p2 n, 0, none⟩), .pointer (some ⟨p3 n, 0, none⟩), .pointer (some ⟨p4 n, 0, none⟩)]) ?_
    refine wl_load h28 0 rfl Tryz.underlying68 rfl (info82qq (dbQ (muQ s a b k))) ?_
    refine wl_callv (v := .agg (qq (adQ a b (dbQ (muQ s a b k))))) h28 enter91 (cap := #[.pointer (some ⟨p1 n, 0, none⟩), .pointer (some ⟨p2 n, 0, none⟩), .pointer (some ⟨p3 n, 0, none⟩), .pointer (some ⟨p4 n, 0, none⟩)]) #[.agg (qq (dbQ (muQ s a b k))), .pointer (some ⟨p1 n, 0, none⟩), .pointer (some ⟨p2 n, 0, none⟩), .pointer (some ⟨p3 n, 0, none⟩), .pointer (some ⟨p4 n, 0, none⟩)] (asum_q a b (dbQ (muQ s a b k)) (crQ_lt _ _ _ _) (p1 n) (p2 n) (p3 n) (p4 n) w27 (VX.below h28.old VX.big) (hkp.1.keep h28.old) (hkp.2.1.keep h28.old) (hkp.2.2.1.keep h28.old) (hkp.2.2.2.keep h28.old)) ?_
    intro w29 h30
    refine wl_fill (c' := qq (adQ a b (dbQ (muQ s a b k)))) h30 0 rfl (qq_sz (adQ a b (dbQ (muQ s a b k))) (dbQ (muQ s a b k))) (info82qq (adQ a b (dbQ (muQ s a b k)))) (one_qq (adQ a b (dbQ (muQ s a b k)))) ?_
    intro w31 (h32 : HA w9 [(q15, 68, qq (adQ a b (dbQ (muQ s a b k))))] w31)
    refine wl_nil ?_
    refine block_normal ?_
    refine then_at rfl ?_
    refine wl_region ?_
    refine zwu (run_add (k := .i64) (a := k) (b := 1) (by simp only [top]; omega)) ?_
    refine zwv (iN .i64 (k + 1)) ?_
    refine wl_nil ?_
    exact then_I (zex ((by rw [← muQ_one s a b k hbit]; exact h32)))
   · -- region 9
    refine wl_region ?_
    refine zwv (.string s) ?_
    refine zwv (iN .i64 k) ?_
    refine zwu (run_sub (k := .i64) (a := 255) (b := k) (by omega) (by simp only [top]; omega)) ?_
    refine wl_call (v := .bool false) h26 enter62 #[.string s, iN .i64 (255 - k)] ((by have hz := bit_any s (255 - k) hsz (by omega) w25; rw [decide_eq_false hbit] at hz; exact hz)) ?_
    intro w33 h34
    refine zna ⟨(.agg (pr a b) :: .string s :: pt q1 :: un :: pt q4 :: .func (.func 91) #[] #[pt (p1 n), pt (p2 n), pt (p3 n), pt (p4 n)] :: pt q15 :: iN .i64 k :: .string s :: iN .i64 s.size :: .bool false :: un :: .agg (pr a b) :: .func (.func 91) #[] #[pt (p1 n), pt (p2 n), pt (p3 n), pt (p4 n)] :: .agg (pr 0 0) :: .agg (qq (wiQ 0 0)) :: iN .i64 k :: .bool true :: iN .i64 k :: .agg (qq (muQ s a b k)) :: .agg (qq (dbQ (muQ s a b k))) :: .string s :: iN .i64 k :: iN .i64 (255 - k) :: .bool false :: u20 25 :: u20 26 :: u20 27 :: u20 28 :: List.replicate 2 un).toArray, []⟩ ?_
    refine zcf ?_
    refine wp_skip ?_
    refine block_normal ?_
    refine then_at rfl ?_
    refine wl_region ?_
    refine zwu (run_add (k := .i64) (a := k) (b := 1) (by simp only [top]; omega)) ?_
    refine zwv (iN .i64 (k + 1)) ?_
    refine wl_nil ?_
    exact then_I (zex ((by rw [← muQ_nil s a b k hbit]; exact h34)))
  ·rintro _ w35 ⟨u20, rfl, h36⟩
   refine zsr ?_
   refine zwu (run_lss (k := .i64) (a := 256) (b := 256) false (by decide)) ?_
   refine znt ?_
   refine wp_seq ?_
   refine zcf ?_
   refine wp_exit ?_
   repeat first | refine then_exit ?_ | refine block_exit ?_ | refine block_exit_ne (by decide) ?_
   refine then_at rfl ?_
   refine zsr ?_
   refine wl_load h36 0 rfl Tryz.underlying68 rfl (info82qq (muQ s a b 256)) ?_
   refine zwc h36 enter57 (point_q (muQ s a b 256) (muQ_lt s a b 256) w35 (VX.below h36.old VX.big)) ?_
   intro w37 h38
   have h39 := h10.keep _ _ h38.old
   refine wl_fill (c' := pr (pX (muQ s a b 256)) (pR (muQ s a b 256))) h39 0 rfl (pr_sz (pX (muQ s a b 256)) (pR (muQ s a b 256)) 0 0) (info27p (pX (muQ s a b 256)) (pR (muQ s a b 256))) (one_pr (pX (muQ s a b 256)) (pR (muQ s a b 256))) ?_
   intro w40 (h41 : HA w [(q4, 39, pr (pX (muQ s a b 256)) (pR (muQ s a b 256))), (q1, 39, pr a b)] w40)
   refine znt ?_
   refine wp_ret ?_
   repeat first | refine then_ret ?_ | refine block_ret ?_
   exact bodyPost_ret (v := .agg (pr (pX (muQ s a b 256)) (pR (muQ s a b 256)))) (res_cell (p := 4) (by kernel_rfl) (by kernel_rfl) (h41.get 0 rfl) Tryz.underlying39 rfl (info27p (pX (muQ s a b 256)) (pR (muQ s a b 256)))) rfl ⟨(by rw [if_pos hsz]), h41.old⟩
end Go.Proofs.YtefjnfeckenmkaaGreatDoor

namespace Go.Proofs.YtefjnfeckenmkaaGreatDoor
open Go.RowKit Num
theorem dbl_id (d x y Z x3 y3 : F) (h : y * y - x * x = 1 + d * x * x * y * y) (hx : x3 * (1 + d * x * x * y * y) = x * y + x * y) (hy : y3 * (1 - d * x * x * y * y) = y * y + x * x) :
  let e := (x * Z + y * Z) * (x * Z + y * Z) - (x * Z * (x * Z) + y * Z * (y * Z))
  let g := y * Z * (y * Z) - x * Z * (x * Z)
  let f := g - (Z * Z + Z * Z)
  let k := 0 - (x * Z * (x * Z) + y * Z * (y * Z))
  e * f = x3 * (f * g) ∧ g * k = y3 * (f * g) ∧ e * k = x3 * y3 * (f * g) ∧ f * g = 0 - (Z * Z) * (Z * Z) * ((1 - d * x * x * y * y) * (1 + d * x * x * y * y)) := by
 intro e g f k
 have eg : g = Z * Z * (1 + d * x * x * y * y) := by grobner
 have ef : f = 0 - Z * Z * (1 - d * x * x * y * y) := by grobner
 have ee : e = Z * Z * (x * y + x * y) := by grobner
 have ek : k = 0 - Z * Z * (y * y + x * x) := by grobner
 clear_value e g f k
 rw [← hx] at ee
 rw [← hy] at ek
 generalize 1 + d * x * x * y * y = A at *
 generalize 1 - d * x * x * y * y = B at *
 subst ee eg ef ek
 clear hx hy h
 refine ⟨?_, ?_, ?_, ?_⟩ <;> grobner
theorem add_id (d l x y Z x2 y2 x3 y3 : F) (hx : x3 * (1 + d * x * x2 * y * y2) = x * y2 + x2 * y) (hy : y3 * (1 - d * x * x2 * y * y2) = y * y2 + x * x2) :
  let u := (y2 + x2) * l
  let v := (y2 - x2) * l
  let z := 2 * l * d * (x2 * y2)
  let e := (y * Z + x * Z) * u - (y * Z - x * Z) * v
  let k := (y * Z + x * Z) * u + (y * Z - x * Z) * v
  let f := Z * (2 * l) - x * y * Z * z
  let g := Z * (2 * l) + x * y * Z * z
  e * f = x3 * (f * g) ∧ g * k = y3 * (f * g) ∧ e * k = x3 * y3 * (f * g) ∧ f * g = (2 * l * Z) * (2 * l * Z) * ((1 - d * x * x2 * y * y2) * (1 + d * x * x2 * y * y2)) := by
 intro u v z e k f g
 have eg : g = 2 * l * Z * (1 + d * x * x2 * y * y2) := by grobner
 have ef : f = 2 * l * Z * (1 - d * x * x2 * y * y2) := by grobner
 have ee : e = 2 * l * Z * (x * y2 + x2 * y) := by grobner
 have ek : k = 2 * l * Z * (y * y2 + x * x2) := by grobner
 clear_value e g f k
 rw [← hx] at ee
 rw [← hy] at ek
 generalize 1 + d * x * x2 * y * y2 = A at *
 generalize 1 - d * x * x2 * y * y2 = B at *
 subst ee eg ef ek
 clear hx hy
 refine ⟨?_, ?_, ?_, ?_⟩ <;> grobner
structure Rp (q : Q4) (p : Pt) : Prop where
 lt : q.lt
 nz : toF q.Z ≠ 0
 x : toF q.X = p.x * toF q.Z
 y : toF q.Y = p.y * toF q.Z
 t : toF q.T = p.x * p.y * toF q.Z
structure Pn (a b : Nat) (p : Pt) : Prop where
 ha : a < P
 hb : b < P
 x : toF a = p.x
 y : toF b = p.y - 1
theorem Pn.yy {a b : Nat} {p : Pt} (h : Pn a b p) : toF (addP b 1) = p.y := by
 rw [toF_add, h.y, toF_one]
 grobner
theorem Pn.one {a b c d : Nat} {p : Pt} (h : Pn a b p) (h2 : Pn c d p) : a = c ∧ b = d := ⟨toF_inj h.ha h2.ha (h.x.trans h2.x.symm), toF_inj h.hb h2.hb (h.y.trans h2.y.symm)⟩
theorem Pn.same {a b : Nat} {p q : Pt} (h : Pn a b p) (h2 : Pn a b q) : p = q := Pt.same (h.x.symm.trans h2.x) (by
 have := h.y.symm.trans h2.y
 grobner)
theorem Pn.none : Pn 0 0 nP := ⟨by decide, by decide, rfl, by show (0 : F) = 1 - 1; grobner⟩
theorem Rp.wide {a b : Nat} {p : Pt} (h : Pn a b p) : Rp (wiQ a b) p := ⟨wiQ_lt a b h.ha, F_one, by show toF a = p.x * toF 1; rw [h.x, toF_one]; grobner, by show toF (addP b 1) = p.y * toF 1; rw [h.yy, toF_one]; grobner, by
 show toF (mulP a (addP b 1)) = p.x * p.y * toF 1
 rw [toF_mul, h.x, h.yy, toF_one]
 grobner⟩
theorem Rp.point {q : Q4} {p : Pt} (h : Rp q p) : Pn (pX q) (pR q) p := by
 obtain ⟨h1, h2, h3, h4⟩ := h.lt
 refine ⟨mulP_lt _ _, subP_lt _ _, ?_, ?_⟩
 ·unfold pX
  rw [toF_mul, toF_inv _ h3]
  exact over_is h.nz h.x.symm
 ·unfold pR
  rw [toF_sub _ _ (by decide), toF_mul, toF_inv _ h3, toF_one, over_is h.nz h.y.symm]
theorem crQ_F (e f g h : Nat) : toF (crQ e f g h).X = toF e * toF f ∧ toF (crQ e f g h).Y = toF g * toF h ∧ toF (crQ e f g h).Z = toF f * toF g ∧ toF (crQ e f g h).T = toF e * toF h := ⟨toF_mul _ _, toF_mul _ _, toF_mul _ _, toF_mul _ _⟩
theorem F_four {Z A B : F} (hZ : Z ≠ 0) (hA : A ≠ 0) (hB : B ≠ 0) : 0 - (Z * Z) * (Z * Z) * (A * B) ≠ 0 := fun h => F_ne (F_ne (F_ne hZ hZ) (F_ne hZ hZ)) (F_ne hA hB) (by grobner)
theorem Rp.double {q : Q4} {p : Pt} (h : Rp q p) : Rp (dbQ q) (aP p p) := by
 obtain ⟨l1, l2, l3, l4⟩ := h.lt
 obtain ⟨hX, hY, hZ, hT⟩ := crQ_F (subP (mulP (addP q.X q.Y) (addP q.X q.Y)) (addP (mulP q.X q.X) (mulP q.Y q.Y))) (subP (subP (mulP q.Y q.Y) (mulP q.X q.X)) (addP (mulP q.Z q.Z) (mulP q.Z q.Z))) (subP (mulP q.Y q.Y) (mulP q.X q.X)) (negP (addP (mulP q.X q.X) (mulP q.Y q.Y)))
 obtain ⟨i1, i2, i3, i4⟩ := dbl_id dE p.x p.y (toF q.Z) (aP p p).x (aP p p).y p.on (sx_eq p.on p.on) (sy_eq p.on p.on)
 have e1 : toF (subP (mulP (addP q.X q.Y) (addP q.X q.Y)) (addP (mulP q.X q.X) (mulP q.Y q.Y))) = (p.x * toF q.Z + p.y * toF q.Z) * (p.x * toF q.Z + p.y * toF q.Z) - (p.x * toF q.Z * (p.x * toF q.Z) + p.y * toF q.Z * (p.y * toF q.Z)) := by
  rw [toF_sub _ _ (addP_lt _ _), toF_mul, toF_add, toF_add, toF_mul, toF_mul, h.x, h.y]
 have e3 : toF (subP (mulP q.Y q.Y) (mulP q.X q.X)) = p.y * toF q.Z * (p.y * toF q.Z) - p.x * toF q.Z * (p.x * toF q.Z) := by
  rw [toF_sub _ _ (mulP_lt _ _), toF_mul, toF_mul, h.x, h.y]
 have e2 : toF (subP (subP (mulP q.Y q.Y) (mulP q.X q.X)) (addP (mulP q.Z q.Z) (mulP q.Z q.Z))) = p.y * toF q.Z * (p.y * toF q.Z) - p.x * toF q.Z * (p.x * toF q.Z) - (toF q.Z * toF q.Z + toF q.Z * toF q.Z) := by
  rw [toF_sub _ _ (addP_lt _ _), e3, toF_add, toF_mul]
 have e4 : toF (negP (addP (mulP q.X q.X) (mulP q.Y q.Y))) = 0 - (p.x * toF q.Z * (p.x * toF q.Z) + p.y * toF q.Z * (p.y * toF q.Z)) := by
  rw [toF_neg _ (addP_lt _ _), toF_add, toF_mul, toF_mul, h.x, h.y]
 rw [e1, e2] at hX
 rw [e3, e4] at hY
 rw [e2, e3] at hZ
 rw [e1, e4] at hT
 refine ⟨crQ_lt _ _ _ _, ?_, ?_, ?_, ?_⟩
 ·show toF (crQ _ _ _ _).Z ≠ 0
  rw [hZ, i4]
  exact F_four h.nz (less_ne p.on p.on) (plus_ne p.on p.on)
 ·show toF (crQ _ _ _ _).X = (aP p p).x * toF (crQ _ _ _ _).Z
  rw [hX, hZ, i1]
 ·show toF (crQ _ _ _ _).Y = (aP p p).y * toF (crQ _ _ _ _).Z
  rw [hY, hZ, i2]
 ·show toF (crQ _ _ _ _).T = (aP p p).x * (aP p p).y * toF (crQ _ _ _ _).Z
  rw [hT, hZ, i3]
theorem two_l : toF 243332 = 2 * toF 121666 := by decide +kernel
theorem l_ne : (2 : F) * toF 121666 ≠ 0 := by decide +kernel
theorem turn_eq : 0 - toF 243330 = 2 * toF 121666 * dE := by decide +kernel
theorem Rp.add {q : Q4} {p r : Pt} {c d : Nat} (h : Rp q p) (hr : Pn c d r) : Rp (adQ c d q) (aP p r) := by
 obtain ⟨l1, l2, l3, l4⟩ := h.lt
 obtain ⟨hX, hY, hZ, hT⟩ := crQ_F (aE (suA c d) (leA c d) q.X q.Y) (aF 243332 (tuA c d) q.Z q.T) (aG 243332 (tuA c d) q.Z q.T) (aH (suA c d) (leA c d) q.X q.Y)
 obtain ⟨i1, i2, i3, i4⟩ := add_id dE (toF 121666) p.x p.y (toF q.Z) r.x r.y (aP p r).x (aP p r).y (sx_eq p.on r.on) (sy_eq p.on r.on)
 have su : toF (suA c d) = (r.y + r.x) * toF 121666 := by unfold suA; rw [toF_mul, toF_add, hr.yy, hr.x]
 have le : toF (leA c d) = (r.y - r.x) * toF 121666 := by unfold leA; rw [toF_mul, toF_sub _ _ hr.ha, hr.yy, hr.x]
 have tu : toF (tuA c d) = 2 * toF 121666 * dE * (r.x * r.y) := by
  unfold tuA
  rw [toF_neg _ (mulP_lt _ _), toF_mul, toF_mul, hr.yy, hr.x, ← turn_eq]
  grobner
 have e1 : toF (aE (suA c d) (leA c d) q.X q.Y) = (p.y * toF q.Z + p.x * toF q.Z) * ((r.y + r.x) * toF 121666) - (p.y * toF q.Z - p.x * toF q.Z) * ((r.y - r.x) * toF 121666) := by
  unfold aE; rw [toF_sub _ _ (mulP_lt _ _), toF_mul, toF_mul, toF_add, toF_sub _ _ l1, su, le, h.x, h.y]
 have e4 : toF (aH (suA c d) (leA c d) q.X q.Y) = (p.y * toF q.Z + p.x * toF q.Z) * ((r.y + r.x) * toF 121666) + (p.y * toF q.Z - p.x * toF q.Z) * ((r.y - r.x) * toF 121666) := by
  unfold aH; rw [toF_add, toF_mul, toF_mul, toF_add, toF_sub _ _ l1, su, le, h.x, h.y]
 have e2 : toF (aF 243332 (tuA c d) q.Z q.T) = toF q.Z * (2 * toF 121666) - p.x * p.y * toF q.Z * (2 * toF 121666 * dE * (r.x * r.y)) := by
  unfold aF; rw [toF_sub _ _ (mulP_lt _ _), toF_mul, toF_mul, tu, h.t, two_l]
 have e3 : toF (aG 243332 (tuA c d) q.Z q.T) = toF q.Z * (2 * toF 121666) + p.x * p.y * toF q.Z * (2 * toF 121666 * dE * (r.x * r.y)) := by
  unfold aG; rw [toF_add, toF_mul, toF_mul, tu, h.t, two_l]
 rw [e1, e2] at hX
 rw [e3, e4] at hY
 rw [e2, e3] at hZ
 rw [e1, e4] at hT
 refine ⟨crQ_lt _ _ _ _, ?_, ?_, ?_, ?_⟩
 ·show toF (crQ _ _ _ _).Z ≠ 0
  rw [hZ, i4]
  exact F_ne (F_ne (F_ne l_ne h.nz) (F_ne l_ne h.nz)) (F_ne (less_ne p.on r.on) (plus_ne p.on r.on))
 ·show toF (crQ _ _ _ _).X = (aP p r).x * toF (crQ _ _ _ _).Z
  rw [hX, hZ, i1]
 ·show toF (crQ _ _ _ _).Y = (aP p r).y * toF (crQ _ _ _ _).Z
  rw [hY, hZ, i2]
 ·show toF (crQ _ _ _ _).T = (aP p r).x * (aP p r).y * toF (crQ _ _ _ _).Z
  rw [hT, hZ, i3]
end Go.Proofs.YtefjnfeckenmkaaGreatDoor

namespace Go.Proofs.YtefjnfeckenmkaaGreatDoor
open Go.RowKit Num
theorem numS_256 (s : ByteArray) (hs : s.size = 32) : numS s < 2 ^ 256 := by
 have h : numS s % 65536 ^ 16 < 65536 ^ 16 := Nat.mod_lt _ (by decide)
 rw [numS_lt s hs] at h
 exact h
theorem gen_half (N e : Nat) : N / 2 ^ e = 2 * (N / 2 ^ (e + 1)) + N / 2 ^ e % 2 := by
 rw [Nat.pow_succ, ← Nat.div_div_eq_div_mul]
 omega
theorem mu_rep (s : ByteArray) (hs : s.size = 32) {a b : Nat} {p : Pt} (h : Pn a b p) : ∀ k, k ≤ 256 → Rp (muQ s a b k) (mP p (numS s / 2 ^ (256 - k)))
 | 0, _ => by
  rw [Nat.div_eq_of_lt (numS_256 s hs)]
  exact Rp.wide Pn.none
 | k + 1, hk => by
  have ih := mu_rep s hs h k (by omega)
  have e : 256 - (k + 1) = 255 - k := by omega
  have e2 : 256 - k = (255 - k) + 1 := by omega
  rw [e2] at ih
  rw [e, gen_half (numS s) (255 - k)]
  have hd := ih.double
  rw [← mP_two] at hd
  by_cases hb : numS s / 2 ^ (255 - k) % 2 = 1
  ·rw [← muQ_one s a b k hb, hb]
   exact hd.add h
  ·rw [← muQ_nil s a b k hb, show numS s / 2 ^ (255 - k) % 2 = 0 by omega]
   exact hd
theorem mul_ex {a b : Nat} {p : Pt} (h : Pn a b p) (s : ByteArray) (hs : s.size = 32) : ∃ x y, Pn x y (mP p (numS s)) ∧ ∀ w, Vars w → Calls Tryz.prog 17 #[.agg (pr a b), .string s] w fun e w' => e = .returned (.agg (pr x y)) ∧ Below w.heap.size w w' := by
 have hr := (mu_rep s hs h 256 (Nat.le_refl _)).point
 rw [Nat.sub_self, Nat.pow_zero, Nat.div_one] at hr
 refine ⟨_, _, hr, fun w VV => ?_⟩
 have := PMul_any s a b h.ha h.hb w VV
 rw [if_pos hs] at this
 exact this
theorem add_ex {a b c d : Nat} {p q : Pt} (h : Pn a b p) (h2 : Pn c d q) : ∃ x y, Pn x y (aP p q) ∧ ∀ w, Vars w → Calls Tryz.prog 30 #[.agg (pr a b), .agg (pr c d)] w fun e w' => e = .returned (.agg (pr x y)) ∧ Below w.heap.size w w' :=
 ⟨_, _, ((Rp.wide h).add h2).point, fun w VV => PAdd_any a b c d h.ha h.hb h2.ha h2.hb w VV⟩
theorem Pn.neg {a b : Nat} {p : Pt} (h : Pn a b p) : Pn (negP a) b (gP p) := ⟨negP_lt _, h.hb, by rw [toF_neg _ h.ha, h.x]; rfl, h.y⟩
theorem same_yes {a b c d : Nat} {p q : Pt} (h : Pn a b p) (h2 : Pn c d q) (e : p = q) (w : World) : Calls Tryz.prog 29 #[.agg (pr a b), .agg (pr c d)] w fun e w' => e = .returned (.bool true) ∧ Below w.heap.size w w' := by
 subst e
 exact psame_yes a b c d h.ha h.hb h2.ha h2.hb (h.one h2).1 (h.one h2).2 w
theorem same_no {a b c d : Nat} {p q : Pt} (h : Pn a b p) (h2 : Pn c d q) (e : p ≠ q) (w : World) : Calls Tryz.prog 29 #[.agg (pr a b), .agg (pr c d)] w fun e w' => e = .returned (.bool false) ∧ Below w.heap.size w w' := by
 by_cases h3 : a = c
 ·by_cases h4 : b = d
  ·subst h3 h4
   exact absurd (h.same h2) e
  ·exact psame_no2 a b c d h.ha h.hb h2.ha h2.hb h3 h4 w
 ·exact psame_no1 a b c d h.ha h.hb h2.ha h2.hb h3 w
/-! points out of a y -/
theorem l_d : toF 121666 * dE = 0 - toF 121665 := by decide +kernel
theorem l_nz : toF 121666 ≠ 0 := by decide +kernel
theorem dy_ne (y : F) : 1 + dE * y * y ≠ 0 := fun h => by
 have hi := iE_sq
 have h2 : dE * y * y = iE * iE := by grobner
 have h3 := nosq h2
 rw [h3] at h
 exact F_one (by grobner)
theorem bsq_F (y : Nat) : toF (bsq y) * (1 + dE * toF y * toF y) = toF y * toF y - 1 := by
 have hl := l_d
 have e : toF (subP 121666 (mulP (mulP y y) 121665)) = toF 121666 * (1 + dE * toF y * toF y) := by
  rw [toF_sub _ _ (mulP_lt _ _), toF_mul, toF_mul]
  grobner
 have hn : toF (subP 121666 (mulP (mulP y y) 121665)) ≠ 0 := by
  rw [e]
  exact F_ne l_nz (dy_ne _)
 have hm := mul_inv hn
 unfold bsq
 rw [toF_mul, toF_mul, toF_sub _ _ (by decide), toF_mul, toF_inv _ (subP_lt _ _), toF_one]
 rw [e] at hm ⊢
 generalize inv (toF 121666 * (1 + dE * toF y * toF y)) = v at *
 grobner
theorem of_pt {y rt : Nat} (hroot : rootP (bsq y) = some rt) : ∃ p : Pt, p.x = toF rt ∧ p.y = toF y ∧ Pn rt (subP y 1) p := by
 obtain ⟨h1, h2, h3⟩ := root_is hroot
 have hx : toF rt * toF rt = toF (bsq y) := by rw [← toF_mul, h1]
 have hb := bsq_F y
 rw [← hx] at hb
 have on : OnC (toF rt) (toF y) := by
  unfold OnC
  grobner
 exact ⟨⟨toF rt, toF y, on⟩, rfl, rfl, ⟨h3, subP_lt _ _, rfl, by rw [toF_sub _ _ (by decide), toF_one]⟩⟩
theorem base_on : OnC (toF bX) (toF bY) := by
 unfold OnC
 decide +kernel
def bP : Pt := ⟨toF bX, toF bY, base_on⟩
theorem Pn.base : Pn bX (subP bY 1) bP := ⟨bX_lt, subP_lt _ _, rfl, by rw [toF_sub _ _ (by decide), toF_one]; rfl⟩
theorem ofP_lt {s : ByteArray} {y : Nat} (h : ofP s = some y) : y < P := by
 unfold ofP at h
 split at h
 ·rename_i h2
  have e := Option.some.inj h
  rw [← e]
  exact h2.2
 ·cases h
theorem of_no (s : ByteArray) (hs : s.size ≠ 32) (w : World) (VV : Vars w) : Calls Tryz.prog 28 #[.string s] w fun e w' => e = .returned (.tuple #[.agg (pr 0 0), .bool false]) ∧ Below w.heap.size w w' := POf_no_size s hs w VV
section
variable {ρ : Operand → Value} {x : Operand} {w : World} {dst : Option Tmp} {ty : TypeId} {pos : String} {aft : Array Edge} {gd : Option (Nat × Bool)} {q : Nat}
end
end Go.Proofs.YtefjnfeckenmkaaGreatDoor

namespace Go.Proofs.YtefjnfeckenmkaaGreatDoor
open Go.RowKit Num
def goQ (n c d : Nat) : Nat → Nat → Nat → Nat → Nat → Q4
 | 0, X, Y, Z, T => ⟨X, Y, Z, T⟩
 | k + 1, X, Y, Z, T => if n / 2 ^ k % 2 = 1 then goQ n c d k (adQ c d (dbQ ⟨X, Y, Z, T⟩)).X (adQ c d (dbQ ⟨X, Y, Z, T⟩)).Y (adQ c d (dbQ ⟨X, Y, Z, T⟩)).Z (adQ c d (dbQ ⟨X, Y, Z, T⟩)).T
  else goQ n c d k (dbQ ⟨X, Y, Z, T⟩).X (dbQ ⟨X, Y, Z, T⟩).Y (dbQ ⟨X, Y, Z, T⟩).Z (dbQ ⟨X, Y, Z, T⟩).T
theorem goQ_mu (s : ByteArray) (c d : Nat) : ∀ k m, k + m = 256 → goQ (numS s) c d k (muQ s c d m).X (muQ s c d m).Y (muQ s c d m).Z (muQ s c d m).T = muQ s c d 256
 | 0, m, h => by rw [show m = 256 by omega]; rfl
 | k + 1, m, h => by
  have e : 255 - m = k := by omega
  unfold goQ
  by_cases hb : numS s / 2 ^ k % 2 = 1
  ·rw [if_pos hb, ← goQ_mu s c d k (m + 1) (by omega), ← muQ_one s c d m (by rw [e]; exact hb)]
  ·rw [if_neg hb, ← goQ_mu s c d k (m + 1) (by omega), ← muQ_nil s c d m (by rw [e]; exact hb)]
theorem goQ_mu0 (s : ByteArray) (c d : Nat) : muQ s c d 256 = goQ (numS s) c d 256 0 1 1 0 := (goQ_mu s c d 256 0 rfl).symm
def bR : Nat := 46316835694926478169428394003475163141307993866256225615783033603165251855959
theorem bR_eq : subP bY 1 = bR := by decide +kernel
def sL : ByteArray := { data := #[237, 211, 245, 92, 26, 99, 18, 88, 214, 156, 247, 162, 222, 249, 222, 20, 0, 0, 0, 0, 0, 0, 0, 0, 0, 0, 0, 0, 0, 0, 0, 16] }
theorem sL_num : numS sL = ordL := by decide +kernel
theorem sL_size : sL.size = 32 := rfl
theorem goL : (goQ ordL bX bR 256 0 1 1 0).X = 0 ∧ (goQ ordL bX bR 256 0 1 1 0).Y = (goQ ordL bX bR 256 0 1 1 0).Z := by decide +kernel
theorem rp_none {q : Q4} {p : Pt} (h : Rp q p) (hx : q.X = 0) (hy : q.Y = q.Z) : p = nP := by
 have h1 := h.x
 have h2 := h.y
 rw [hx, toF_zero] at h1
 rw [hy] at h2
 refine Pt.same ((F_nil h1.symm).resolve_right h.nz) ?_
 have h3 : toF q.Z * p.y = toF q.Z * 1 := by grobner
 exact F_cancel h.nz h3
theorem base_ord : mP bP ordL = nP := by
 have h := mu_rep sL sL_size Pn.base 256 (Nat.le_refl _)
 rw [Nat.sub_self, Nat.pow_zero, Nat.div_one, sL_num, goQ_mu0, sL_num, bR_eq] at h
 exact rp_none h goL.1 goL.2
theorem base_ne : bP ≠ nP := fun e => by
 have h : toF bX = 0 := congrArg Pt.x e
 exact absurd h (by decide +kernel)
theorem mP_gcd (p : Pt) : ∀ a b, mP p a = nP → mP p b = nP → mP p (Nat.gcd a b) = nP := by
 intro a b
 induction a, b using Nat.gcd.induction with
 | H0 n => intro _ h; rw [Nat.gcd_zero_left]; exact h
 | H1 m n hm ih =>
  intro h1 h2
  rw [Nat.gcd_rec]
  exact ih (by rw [mP_mod p m n h1]; exact h2) h1
theorem mP_sub (p : Pt) {i j : Nat} (hij : i ≤ j) (h : mP p i = mP p j) : mP p (j - i) = nP := by
 obtain ⟨k, rfl⟩ := Nat.le.dest hij
 rw [mP_add] at h
 rw [Nat.add_sub_cancel_left]
 exact (aP_left (p := mP p i) (by rw [aP_none]; exact h)).symm
theorem ord_dvd {k : Nat} (h : mP bP k = nP) : ordL ∣ k := by
 have hg := mP_gcd bP k ordL h base_ord
 rcases ordL_irr.2 (Nat.gcd k ordL) (Nat.gcd_dvd_right _ _) with h1 | h1
 ·rw [h1, mP_one] at hg
  exact absurd hg base_ne
 ·rw [← h1]
  exact Nat.gcd_dvd_left _ _
def tX : Nat := 43496726750457979451437558183816721346016168361625936758514574428539776020131
def tY : Nat := 55188659117513257062467267217118295137698188065244968500265048394206261417927
theorem t_on : OnC (toF tX) (toF tY) := by
 unfold OnC
 decide +kernel
def tP : Pt := ⟨toF tX, toF tY, t_on⟩
def code (p : Pt) : Nat := 2 * p.y.val + p.x.val % 2
theorem val_neg {x y : F} (h : x + y = 0) : x.val + y.val = 0 ∨ x.val + y.val = P := by
 have h1 := congrArg Fin.val h
 rw [F_add] at h1
 have hx : x.val < P := x.isLt
 have hy : y.val < P := y.isLt
 have hz : (0 : F).val = 0 := rfl
 rw [hz] at h1
 rcases Nat.lt_or_ge (x.val + y.val) P with h2 | h2
 ·rw [Nat.mod_eq_of_lt h2] at h1
  exact .inl h1
 ·right
  rw [Nat.mod_eq_sub_mod h2, Nat.mod_eq_of_lt (by omega)] at h1
  omega
theorem code_inj {p q : Pt} (h : code p = code q) : p = q := by
 unfold code at h
 have hy : p.y = q.y := Fin.ext (by omega)
 refine Pt.same ?_ hy
 have h1 := p.on
 have h2 := q.on
 unfold OnC at h1 h2
 rw [← hy] at h2
 have h3 : (1 + dE * p.y * p.y) * ((p.x - q.x) * (p.x + q.x)) = 0 := by grobner
 rcases F_nil ((F_nil h3).resolve_left (dy_ne _)) with h4 | h4
 ·grobner
 ·have hp := P_odd
  rcases val_neg h4 with h5 | h5
  ·exact Fin.ext (by omega)
  ·omega
end Go.Proofs.YtefjnfeckenmkaaGreatDoor

namespace Go.Proofs.YtefjnfeckenmkaaGreatDoor
open Go.RowKit Num
theorem gen_top' (K N b : Nat) (h : N < K) : (N + K * b) % (K * 128) = N + K * (b % 128) := by
 rw [Nat.mod_mul, Nat.add_mul_mod_self_left, Nat.mod_eq_of_lt h, Nat.add_mul_div_left _ _ (by omega), Nat.div_eq_of_lt h, Nat.zero_add]
theorem split32' (l : List UInt8) (hl : l.length = 32) : ∃ m b, m.length = 31 ∧ l = m ++ [b] := by
 refine ⟨l.take 31, l[31]'(by omega), by rw [List.length_take]; omega, ?_⟩
 have h := List.take_succ_eq_append_getElem (l := l) (i := 31) (by omega)
 rw [← h, List.take_of_length_le (by omega)]
theorem last_get (m : List UInt8) (b : UInt8) (hm : m.length = 31) : (m ++ [b]).getD 31 0 = b := by
 rw [List.getD_eq_getElem?_getD, List.getElem?_append_right (by omega), hm]; rfl
theorem last_set (m : List UInt8) (b z : UInt8) (hm : m.length = 31) : (m ++ [b]).set 31 z = m ++ [z] := by
 rw [List.set_append_right _ _ (by omega), hm]; rfl
theorem num_last (m : List UInt8) (z : UInt8) (hm : m.length = 31) : num 256 ((m ++ [z]).map (·.toNat)) = num 256 (m.map (·.toNat)) + 256 ^ 31 * z.toNat := by
 rw [List.map_append, num_append, List.length_map, hm]
 simp [num]
theorem num31_lt (m : List UInt8) (hm : m.length = 31) : num 256 (m.map (·.toNat)) < 256 ^ 31 := by
 have h := num_lt 256 (m.map (·.toNat)) (fun x hx => by obtain ⟨y, _, rfl⟩ := List.mem_map.1 hx; exact UInt8.toNat_lt y)
 rw [List.length_map, hm] at h
 exact h
theorem numS_l (l : List UInt8) : numS ⟨l.toArray⟩ = num 256 (l.map (·.toNat)) := rfl
theorem numS_b (s : ByteArray) : numS s = num 256 ((bl s).map (·.toNat)) := rfl
theorem top_num' (t : ByteArray) (ht : t.size = 32) : numS (topS t) = numS t % 2 ^ 255 := by
 obtain ⟨m, b, hm, hl⟩ := split32' (bl t) (by rw [bl_len, ht])
 unfold topS
 rw [numS_l, numS_b, hl, last_get m b hm, last_set m b _ hm, num_last m _ hm, num_last m b hm, show (2 : Nat) ^ 255 = 256 ^ 31 * 128 by decide, gen_top' _ _ _ (num31_lt m hm), UInt8.toNat_ofNat']
 have h7 : b.toNat &&& 127 = b.toNat % 128 := Nat.and_two_pow_sub_one_eq_mod b.toNat 7
 rw [h7, Nat.mod_eq_of_lt (by omega)]
theorem topS_size' (t : ByteArray) (ht : t.size = 32) : (topS t).size = 32 := by
 show ((bl t).set 31 _).toArray.size = 32
 rw [List.size_toArray, List.length_set, bl_len, ht]
theorem bts_bytesOf' (n : Nat) : bts (bytesOf n) = digs 256 32 n := by
 unfold bts bytesOf les
 show List.map _ (List.map UInt8.ofNat (digs 256 32 n)).toArray.toList = _
 rw [List.toList_toArray, List.map_map]
 have : ∀ x ∈ digs 256 32 n, ((fun u : UInt8 => u.toNat) ∘ UInt8.ofNat) x = id x := fun x hx => by
  have := digs_lt 256 (by decide) 32 n x hx
  show (UInt8.ofNat x).toNat = x
  rw [UInt8.toNat_ofNat']; omega
 rw [List.map_congr_left this, List.map_id]
theorem num_bytesOf (n : Nat) (h : n < 2 ^ 256) : numS (bytesOf n) = n := by
 unfold numS
 rw [bts_bytesOf', num_digs]
 exact Nat.mod_eq_of_lt h
theorem bytes_num (s : ByteArray) (h : s.size = 32) : bytesOf (numS s) = s := by
 have h1 : digs 256 32 (numS s) = bts s := digs_num 256 (bts s) (fun x hx => by obtain ⟨u, _, rfl⟩ := List.mem_map.1 hx; exact UInt8.toNat_lt u) 32 (by unfold bts; rw [List.length_map]; exact h)
 unfold bytesOf les
 rw [h1]
 unfold bts
 rw [List.map_map]
 have : ((fun u : UInt8 => UInt8.ofNat u.toNat)) = id := by funext u; simp
 show (⟨(List.map (fun u : UInt8 => UInt8.ofNat u.toNat) s.data.toList).toArray⟩ : ByteArray) = s
 rw [this, List.map_id]
theorem num_eq {s t : ByteArray} (hs : s.size = 32) (ht : t.size = 32) (h : numS s = numS t) : s = t := by rw [← bytes_num s hs, ← bytes_num t ht, h]
theorem P_255 : P < 2 ^ 255 := by decide
theorem or128 : ∀ b : Fin 128, b.1 ||| 128 = b.1 + 128 := by decide +kernel
theorem odd_num (y : Nat) (hy : y < 2 ^ 255) : numS (oddS y) = y + 2 ^ 255 := by
 have hs : (bytesOf y).size = 32 := bytesOf_size y
 obtain ⟨m, b, hm, hl⟩ := split32' (bl (bytesOf y)) (by rw [bl_len, hs])
 have hn : numS (bytesOf y) = y := num_bytesOf y (Nat.lt_trans hy (by decide))
 rw [numS_b, hl, num_last m b hm] at hn
 have hb : b.toNat < 128 := by
  rw [show (2 : Nat) ^ 255 = 256 ^ 31 * 128 by decide] at hy
  rcases Nat.lt_or_ge b.toNat 128 with h | h
  ·exact h
  ·have := Nat.mul_le_mul_left (256 ^ 31) h
   omega
 unfold oddS
 rw [numS_l, hl, last_get m b hm, last_set m b _ hm, num_last m _ hm, or128 ⟨b.toNat, hb⟩, UInt8.toNat_ofNat']
 show num 256 (m.map (·.toNat)) + 256 ^ 31 * ((b.toNat + 128) % 256) = y + 2 ^ 255
 rw [Nat.mod_eq_of_lt (by omega), ← hn, show (2 : Nat) ^ 255 = 256 ^ 31 * 128 by decide, Nat.mul_add, Nat.add_assoc]
theorem odd_size (y : Nat) : (oddS y).size = 32 := by
 show ((bl (bytesOf y)).set 31 _).toArray.size = 32
 rw [List.size_toArray, List.length_set, bl_len, bytesOf_size]
def encP (p : Pt) : ByteArray := if p.x.val % 2 = 1 then oddS p.y.val else bytesOf p.y.val
theorem encP_size (p : Pt) : (encP p).size = 32 := by
 unfold encP
 split
 ·exact odd_size _
 ·exact bytesOf_size _
theorem y_255 (p : Pt) : p.y.val < 2 ^ 255 := Nat.lt_trans (show p.y.val < P from p.y.isLt) P_255
theorem encP_odd (p : Pt) (h : p.x.val % 2 = 1) : numS (encP p) = p.y.val + 2 ^ 255 := by
 unfold encP
 rw [if_pos h]
 exact odd_num _ (y_255 p)
theorem encP_even (p : Pt) (h : ¬ p.x.val % 2 = 1) : numS (encP p) = p.y.val := by
 unfold encP
 rw [if_neg h]
 exact num_bytesOf _ (Nat.lt_trans (y_255 p) (by decide))
theorem Pn.xv {a b : Nat} {p : Pt} (h : Pn a b p) : a = p.x.val := by
 have := congrArg Fin.val h.x
 rw [toF_val, Nat.mod_eq_of_lt h.ha] at this
 exact this
theorem Pn.yv {a b : Nat} {p : Pt} (h : Pn a b p) : addP b 1 = p.y.val := by
 have := congrArg Fin.val h.yy
 rw [toF_val, Nat.mod_eq_of_lt (addP_lt _ _)] at this
 exact this
theorem bytes_ex {a b : Nat} {p : Pt} (h : Pn a b p) (w : World) (VV : Vars w) : Calls Tryz.prog 18 #[.agg (pr a b)] w fun e w' => e = .returned (.string (encP p)) ∧ Below w.heap.size w w' := by
 unfold encP
 rw [← h.xv, ← h.yv]
 by_cases ho : a % 2 = 1
 ·rw [if_pos ho]
  exact PBytes_odd a b h.ha h.hb ho w VV
 ·rw [if_neg ho]
  exact PBytes_even a b h.ha h.hb (by omega) w VV
theorem Pn.self (p : Pt) : Pn p.x.val (subP p.y.val 1) p := ⟨p.x.isLt, subP_lt _ _, toF_of _, by rw [toF_sub _ _ (by decide), toF_of, toF_one]⟩
theorem bsq_on (p : Pt) : bsq p.y.val = mulP p.x.val p.x.val := by
 apply toF_inj (bsq_lt _) (mulP_lt _ _)
 rw [toF_mul, toF_of]
 have h := bsq_F p.y.val
 rw [toF_of] at h
 have h2 := p.on
 unfold OnC at h2
 have h3 : (1 + dE * p.y * p.y) * toF (bsq p.y.val) = (1 + dE * p.y * p.y) * (p.x * p.x) := by grobner
 exact F_cancel (dy_ne _) h3
theorem of_num {s : ByteArray} {y : Nat} (hs : s.size = 32) (h : numS s % 2 ^ 255 = y) (hy : y < P) : ofP (topS s) = some y := by
 unfold ofP
 rw [top_num' s hs, h]
 exact if_pos ⟨topS_size' s hs, hy⟩
theorem of_enc (p : Pt) : ∀ w, Vars w → Calls Tryz.prog 28 #[.string (encP p)] w fun e w' => e = .returned (.tuple #[.agg (pr p.x.val (subP p.y.val 1)), .bool true]) ∧ Below w.heap.size w w' := by
 intro w VV
 have hs := encP_size p
 have hy : p.y.val < P := p.y.isLt
 have hx : p.x.val < P := p.x.isLt
 have y2 := y_255 p
 obtain ⟨r, hr, he, hlt, hor⟩ := root_square p.x.val hx
 rw [← bsq_on] at hr
 have hneg := negP_of p.x.val hx
 have hp := P_odd
 by_cases ho : p.x.val % 2 = 1
 ·have hn := encP_odd p ho
  have hx0 : p.x.val ≠ 0 := by omega
  rw [if_neg hx0] at hneg
  have hrr : r = P - p.x.val := by
   rcases hor with h | h
   ·omega
   ·omega
  have hback : negP r = p.x.val := by
   rw [negP_of r hlt, if_neg (by omega)]
   omega
  have := POf_yes_odd (encP p) hs p.y.val hy (of_num hs (by rw [hn]; omega) hy) r hlt hr (by rw [hn]; omega) (by omega) w VV
  rw [hback] at this
  exact this
 ·have hn := encP_even p ho
  have hrr : r = p.x.val := by
   rcases hor with h | h
   ·exact h
   ·rw [hneg] at h
    split at h
    ·omega
    ·omega
  have := POf_yes_even (encP p) hs p.y.val hy (of_num hs (by rw [hn]; omega) hy) r hlt hr (by rw [hn]; omega) w VV
  rw [hrr] at this
  exact this
theorem of_ex2 (s : ByteArray) (hs : s.size = 32) : (∃ a b p, Pn a b p ∧ encP p = s ∧ ∀ w, Vars w → Calls Tryz.prog 28 #[.string s] w fun e w' => e = .returned (.tuple #[.agg (pr a b), .bool true]) ∧ Below w.heap.size w w') ∨
  (∀ w, Vars w → Calls Tryz.prog 28 #[.string s] w fun e w' => e = .returned (.tuple #[.agg (pr 0 0), .bool false]) ∧ Below w.heap.size w w') := by
 have hs2 := numS_256 s hs
 cases hof : ofP (topS s) with
 | none =>
  right
  by_cases hb : numS s / 2 ^ 255 % 2 = 1
  ·exact fun w VV => POf_no_of1 s hs hof hb w VV
  ·exact fun w VV => POf_no_of0 s hs hof hb w VV
 | some y =>
  have hy := ofP_lt hof
  have hyn : numS s % 2 ^ 255 = y := by
   unfold ofP at hof
   split at hof
   ·rw [← Option.some.inj hof, top_num' s hs]
   ·cases hof
  cases hroot : rootP (bsq y) with
  | none =>
   right
   by_cases hb : numS s / 2 ^ 255 % 2 = 1
   ·exact fun w VV => POf_no_root1 s hs y hy hof hroot hb w VV
   ·exact fun w VV => POf_no_root0 s hs y hy hof hroot hb w VV
  | some rt =>
   obtain ⟨p, hx, hyy, hp⟩ := of_pt hroot
   obtain ⟨_, hev, _⟩ := root_is hroot
   have hyv : p.y.val = y := by rw [hyy, toF_val, Nat.mod_eq_of_lt hy]
   have hxv := hp.xv
   have hpo := P_odd
   by_cases hb : numS s / 2 ^ 255 % 2 = 1
   ·by_cases hz : rt = 0
    ·exact .inr fun w VV => POf_no_zero s hs y hy hof rt hp.ha hroot hb hz w VV
    ·refine .inl ⟨_, _, gP p, hp.neg, ?_, fun w VV => POf_yes_odd s hs y hy hof rt hp.ha hroot hb hz w VV⟩
     have hg := hp.neg.xv
     rw [negP_of rt hp.ha, if_neg hz] at hg
     have hlt := hp.ha
     refine num_eq (encP_size _) hs ?_
     rw [encP_odd _ (by omega)]
     show p.y.val + 2 ^ 255 = numS s
     omega
   ·refine .inl ⟨_, _, p, hp, ?_, fun w VV => POf_yes_even s hs y hy hof rt hp.ha hroot hb w VV⟩
    refine num_eq (encP_size _) hs ?_
    rw [encP_even _ (by omega)]
    omega
end Go.Proofs.YtefjnfeckenmkaaGreatDoor
