/-
  Drawn regions with a change or two, whatever is read stays.
-/
import Derived.Test.YtoogiblkommdfaaGreatTM
namespace Go.Proofs.YtoogiblkommdfaaGreat
open Go.RowKit

structure G2 (R P0 : World → Prop) (P1 P2 : Nat → World → Prop) (pre : Nat → List Nat) (i0 i1 : Nat) (g : Nat → Nat) (d : Nat → Bool) (w : World) : Prop where
  all : R w
  held : if d i1 = true then P2 (g i0) w else if d i0 = true then P1 (g i0) w else P0 w
  seen : Cl pre d
structure G1 (R P0 : World → Prop) (P1 : Nat → World → Prop) (i0 : Nat) (g : Nat → Nat) (d : Nat → Bool) (w : World) : Prop where
  all : R w
  held : if d i0 = true then P1 (g i0) w else P0 w
def Stab (P : World → Prop) : Prop := ∀ w w', Below w.heap.size w w' → P w → P w'
theorem Stab.ha {z : Base} {L : List (Nat × TypeId × Array Value)} : Stab (HA z L) := fun w w' hb h => h.keep w w' hb
section
variable {ops : Array Oper} {Q : Exit → Act → World → Prop} {F : (Nat → Nat) → Act} {i i0 i1 : Nat} {dst : Option Tmp} {T ty : TypeId} {pos : String} {aft : Array Edge} {gd : Option (Nat × Bool)}
  {R P0 : World → Prop} {P1 P2 : Nat → World → Prop} {pre : Nat → List Nat}
theorem G2.start {g : Nat → Nat} {d : Nat → Bool} {w : World} (hR : R w) (h : P0 w) (hd : d i0 = false) (hd1 : d i1 = false) (hc : Cl pre d) : G2 R P0 P1 P2 pre i0 i1 g d w := ⟨hR, by rw [hd, hd1]; exact h, hc⟩
theorem G1.start {g : Nat → Nat} {d : Nat → Bool} {w : World} (hR : R w) (h : P0 w) (hd : d i0 = false) : G1 R P0 P1 i0 g d w := ⟨hR, by rw [hd]; exact h⟩
theorem g2_read {o : Oper} {v : (Nat → Nat) → Value} (hi : i ≠ i0) (hi1 : i ≠ i1) (he : ahead o.after (pre i) = true) (hw : ∀ g, Region.wanted o (yielded ops (F g).tmps) = true) (hp : ∀ g, (F g).put o.dst (v g) = F g)
    (hr : ∀ g w, R w → (execOp (F g).eval o).run Tryz.prog w = .ok (.value (v g)) w) : OpGhost Tryz.prog .any ops Q (G2 R P0 P1 P2 pre i0 i1) F i o :=
  OpGhost.take hw hp (fun g _ w h ha => ⟨hr g w h.all, h.all, by rw [up_ne _ _ (Ne.symm hi), up_ne _ _ (Ne.symm hi1)]; exact h.held, h.seen.up (ahead_ok he ha)⟩)
theorem g1_read {o : Oper} {v : (Nat → Nat) → Value} (hi : i ≠ i0) (hw : ∀ g, Region.wanted o (yielded ops (F g).tmps) = true) (hp : ∀ g, (F g).put o.dst (v g) = F g)
    (hr : ∀ g w, R w → (execOp (F g).eval o).run Tryz.prog w = .ok (.value (v g)) w) : OpGhost Tryz.prog .any ops Q (G1 R P0 P1 i0) F i o :=
  OpGhost.take hw hp (fun g _ w h _ => ⟨hr g w h.all, h.all, by rw [up_ne _ _ (Ne.symm hi)]; exact h.held⟩)
/-- the first change is a call -/
theorem g2_call0 {f : FuncId} {xs : Array Operand} {ats : Array TypeId} {v : Nat → Value} {args : Array Value} (hii : i1 ≠ i0) (h10 : ∀ d, Cl pre d → (∀ m ∈ pre i1, d m = true) → d i0 = true) (he : ahead aft (pre i0) = true)
    (hw : ∀ g, Region.wanted ⟨dst, .call { callee := .value (.func f), args := xs, argTypes := ats }, ty, pos, aft, gd⟩ (yielded ops (F g).tmps) = true) (hp : ∀ g n, (F g).put dst (v n) = F (up g i0 n))
    (hr : ∀ args w, (callFunc f args).run Tryz.prog w = .ok (.enter f args) w) (ha : ∀ g, #[] ++ xs.map (F g).eval ++ #[] = args)
    (hc : ∀ w, R w → P0 w → Calls Tryz.prog f args w fun e w' => ∃ n, e = .returned (v n) ∧ R w' ∧ P1 n w') : OpGhost Tryz.prog .any ops Q (G2 R P0 P1 P2 pre i0 i1) F i0 ⟨dst, .call { callee := .value (.func f), args := xs, argTypes := ats }, ty, pos, aft, gd⟩ := fun g d w h hdi haft => by
  rw [if_pos (hw g)]
  unfold Oper.wp
  have e0 : ¬ d i0 = true := by rw [hdi]; decide
  have e1 : ¬ d i1 = true := fun h' => e0 (h10 d h.seen (h.seen i1 h'))
  have hH := h.held
  rw [if_neg e1, if_neg e0] at hH
  rw [execOp_call_go, ha g, hr]
  refine (hc w h.all hH).mono ?_
  rintro e w' ⟨n, rfl, hR, hP⟩
  exact ⟨n, hp g n, hR, by rw [up_ne _ _ hii, if_neg e1, up_at, if_pos rfl, up_at]; exact hP, h.seen.up (ahead_ok he haft)⟩
/-- the first change is an operation -/
theorem g2_act0 {o : Oper} {v : Nat → Value} (hii : i1 ≠ i0) (h10 : ∀ d, Cl pre d → (∀ m ∈ pre i1, d m = true) → d i0 = true) (he : ahead o.after (pre i0) = true) (hw : ∀ g, Region.wanted o (yielded ops (F g).tmps) = true)
    (hp : ∀ g n, (F g).put o.dst (v n) = F (up g i0 n))
    (hr : ∀ g w, R w → P0 w → ∃ n W, (execOp (F g).eval o).run Tryz.prog w = .ok (.value (v n)) W ∧ R W ∧ P1 n W) : OpGhost Tryz.prog .any ops Q (G2 R P0 P1 P2 pre i0 i1) F i0 o := fun g d w h hdi haft => by
  rw [if_pos (hw g)]
  unfold Oper.wp
  have e0 : ¬ d i0 = true := by rw [hdi]; decide
  have e1 : ¬ d i1 = true := fun h' => e0 (h10 d h.seen (h.seen i1 h'))
  have hH := h.held
  rw [if_neg e1, if_neg e0] at hH
  obtain ⟨n, W, hrun, hR, hP⟩ := hr g w h.all hH
  rw [hrun]
  exact ⟨n, hp g n, hR, by rw [up_ne _ _ hii, if_neg e1, up_at, if_pos rfl, up_at]; exact hP, h.seen.up (ahead_ok he haft)⟩
theorem g1_acts {o : Oper} (hw : ∀ g, Region.wanted o (yielded ops (F g).tmps) = true) (hp : ∀ g, (F g).put o.dst undef = F g)
    (hr : ∀ g w, R w → P0 w → ∃ W, (execOp (F g).eval o).run Tryz.prog w = .ok .skip W ∧ R W ∧ ∀ n, P1 n W) : OpGhost Tryz.prog .any ops Q (G1 R P0 P1 i0) F i0 o := fun g d w h hdi haft => by
  rw [if_pos (hw g)]
  unfold Oper.wp
  have e0 : ¬ d i0 = true := by rw [hdi]; decide
  have hH := h.held
  rw [if_neg e0] at hH
  obtain ⟨W, hrun, hR, hP⟩ := hr g w h.all hH
  rw [hrun]
  exact ⟨g i0, by rw [up_self]; exact hp g, by rw [up_self]; exact ⟨hR, by rw [up_at, if_pos rfl]; exact hP _⟩⟩
theorem g1_call0 {f : FuncId} {xs : Array Operand} {ats : Array TypeId} {v : Nat → Value} {args : Array Value}
    (hw : ∀ g, Region.wanted ⟨dst, .call { callee := .value (.func f), args := xs, argTypes := ats }, ty, pos, aft, gd⟩ (yielded ops (F g).tmps) = true) (hp : ∀ g n, (F g).put dst (v n) = F (up g i0 n))
    (hr : ∀ args w, (callFunc f args).run Tryz.prog w = .ok (.enter f args) w) (ha : ∀ g, #[] ++ xs.map (F g).eval ++ #[] = args)
    (hc : ∀ w, R w → P0 w → Calls Tryz.prog f args w fun e w' => ∃ n, e = .returned (v n) ∧ R w' ∧ P1 n w') : OpGhost Tryz.prog .any ops Q (G1 R P0 P1 i0) F i0 ⟨dst, .call { callee := .value (.func f), args := xs, argTypes := ats }, ty, pos, aft, gd⟩ := fun g d w h hdi haft => by
  rw [if_pos (hw g)]
  unfold Oper.wp
  have e0 : ¬ d i0 = true := by rw [hdi]; decide
  have hH := h.held
  rw [if_neg e0] at hH
  rw [execOp_call_go, ha g, hr]
  refine (hc w h.all hH).mono ?_
  rintro e w' ⟨n, rfl, hR, hP⟩
  exact ⟨n, hp g n, hR, by rw [up_at, if_pos rfl, up_at]; exact hP⟩
/-- the second change: a store -/
theorem g2_act1 {o : Oper} (h10 : ∀ d, Cl pre d → (∀ m ∈ pre i1, d m = true) → d i0 = true) (he : ahead o.after (pre i1) = true) (hw : ∀ g, Region.wanted o (yielded ops (F g).tmps) = true) (hp : ∀ g, (F g).put o.dst undef = F g)
    (hr : ∀ g w, R w → P1 (g i0) w → ∃ W, (execOp (F g).eval o).run Tryz.prog w = .ok .skip W ∧ R W ∧ P2 (g i0) W) : OpGhost Tryz.prog .any ops Q (G2 R P0 P1 P2 pre i0 i1) F i1 o := fun g d w h hdi haft => by
  rw [if_pos (hw g)]
  unfold Oper.wp
  have e1 : ¬ d i1 = true := by rw [hdi]; decide
  have e0 : d i0 = true := h10 d h.seen (ahead_ok he haft)
  have hH := h.held
  rw [if_neg e1, if_pos e0] at hH
  obtain ⟨W, hrun, hR, hP⟩ := hr g w h.all hH
  rw [hrun]
  exact ⟨g i1, by rw [up_self]; exact hp g, by rw [up_self]; exact ⟨hR, by rw [up_at, if_pos rfl]; exact hP, h.seen.up (ahead_ok he haft)⟩⟩
end
end Go.Proofs.YtoogiblkommdfaaGreat
