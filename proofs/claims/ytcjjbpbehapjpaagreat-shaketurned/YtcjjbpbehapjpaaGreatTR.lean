/-
  A drawn region with three changes.
-/
import Derived.Test.YtcjjbpbehapjpaaGreatGA
namespace Go.Proofs.YtcjjbpbehapjpaaGreat
open Go.RowKit

structure G3 (R R' P0 : World → Prop) (P1 : Nat → World → Prop) (P2 P3 : Nat → Nat → World → Prop) (pre : Nat → List Nat) (i0 i1 i2 : Nat) (g : Nat → Nat) (d : Nat → Bool) (w : World) : Prop where
  all : R w
  mid : d i2 = false → R' w
  held : if d i2 = true then P3 (g i0) (g i1) w else if d i1 = true then P2 (g i0) (g i1) w else if d i0 = true then P1 (g i0) w else P0 w
  seen : Cl pre d
section
variable {ops : Array Oper} {Q : Exit → Act → World → Prop} {F : (Nat → Nat) → Act} {i i0 i1 i2 : Nat}
  {R R' P0 : World → Prop} {P1 : Nat → World → Prop} {P2 P3 : Nat → Nat → World → Prop} {pre : Nat → List Nat}
theorem G3.start {g : Nat → Nat} {d : Nat → Bool} {w : World} (hR : R w) (hR' : R' w) (h : P0 w) (hd : d i0 = false) (hd1 : d i1 = false) (hd2 : d i2 = false) (hc : Cl pre d) : G3 R R' P0 P1 P2 P3 pre i0 i1 i2 g d w := ⟨hR, fun _ => hR', by rw [hd, hd1, hd2]; exact h, hc⟩
theorem G3.keep {g : Nat → Nat} {d : Nat → Bool} {w : World} (h : G3 R R' P0 P1 P2 P3 pre i0 i1 i2 g d w) (h0 : i ≠ i0) (h1 : i ≠ i1) (h2 : i ≠ i2) (hm : ∀ m ∈ pre i, d m = true) : G3 R R' P0 P1 P2 P3 pre i0 i1 i2 g (up d i true) w :=
  ⟨h.all, fun e => h.mid (by rwa [up_ne _ _ (Ne.symm h2)] at e), by rw [up_ne _ _ (Ne.symm h0), up_ne _ _ (Ne.symm h1), up_ne _ _ (Ne.symm h2)]; exact h.held, h.seen.up hm⟩
theorem g3_read {o : Oper} {v : (Nat → Nat) → Value} (h0 : i ≠ i0) (h1 : i ≠ i1) (h2 : i ≠ i2) (he : ahead o.after (pre i) = true) (hw : ∀ g, Region.wanted o (yielded ops (F g).tmps) = true) (hp : ∀ g, (F g).put o.dst (v g) = F g)
    (hr : ∀ g w, R w → (execOp (F g).eval o).run Tryz.prog w = .ok (.value (v g)) w) : OpGhost Tryz.prog .any ops Q (G3 R R' P0 P1 P2 P3 pre i0 i1 i2) F i o :=
  OpGhost.take hw hp (fun g _ w h ha => ⟨hr g w h.all, h.keep h0 h1 h2 (ahead_ok he ha)⟩)
theorem g3_act1 {o : Oper} {v : Nat → Value} (h01 : i0 ≠ i1) (h12 : i1 ≠ i2) (h1 : i0 ∈ pre i1) (h2 : i1 ∈ pre i2) (he : ahead o.after (pre i1) = true) (hw : ∀ g, Region.wanted o (yielded ops (F g).tmps) = true)
    (hp : ∀ g n, (F g).put o.dst (v n) = F (up g i1 n))
    (hr : ∀ g w, R w → R' w → P1 (g i0) w → ∃ n W, (execOp (F g).eval o).run Tryz.prog w = .ok (.value (v n)) W ∧ R W ∧ R' W ∧ P2 (g i0) n W) : OpGhost Tryz.prog .any ops Q (G3 R R' P0 P1 P2 P3 pre i0 i1 i2) F i1 o := fun g d w h hdi haft => by
  rw [if_pos (hw g)]
  unfold Oper.wp
  have e1 : ¬ d i1 = true := by rw [hdi]; decide
  have e2 : ¬ d i2 = true := fun h' => e1 (h.seen i2 h' i1 h2)
  have e0 : d i0 = true := ahead_ok he haft i0 h1
  have hH := h.held
  rw [if_neg e2, if_neg e1, if_pos e0] at hH
  obtain ⟨n, W, hrun, hR, hR', hP⟩ := hr g w h.all (h.mid (by simpa using e2)) hH
  rw [hrun]
  exact ⟨n, hp g n, hR, fun _ => hR', by rw [up_ne _ _ (Ne.symm h12), if_neg e2, up_at, if_pos rfl, up_ne _ _ h01, up_at]; exact hP, h.seen.up (ahead_ok he haft)⟩
theorem g3_act2 {o : Oper} (h2 : i1 ∈ pre i2) (he : ahead o.after (pre i2) = true) (hw : ∀ g, Region.wanted o (yielded ops (F g).tmps) = true) (hp : ∀ g, (F g).put o.dst undef = F g)
    (hr : ∀ g w, R w → R' w → P2 (g i0) (g i1) w → ∃ W, (execOp (F g).eval o).run Tryz.prog w = .ok .skip W ∧ R W ∧ P3 (g i0) (g i1) W) : OpGhost Tryz.prog .any ops Q (G3 R R' P0 P1 P2 P3 pre i0 i1 i2) F i2 o := fun g d w h hdi haft => by
  rw [if_pos (hw g)]
  unfold Oper.wp
  have e2 : ¬ d i2 = true := by rw [hdi]; decide
  have e1 : d i1 = true := ahead_ok he haft i1 h2
  have hH := h.held
  rw [if_neg e2, if_pos e1] at hH
  obtain ⟨W, hrun, hR, hP⟩ := hr g w h.all (h.mid (by simpa using e2)) hH
  rw [hrun]
  exact ⟨g i2, by rw [up_self]; exact hp g, by rw [up_self]; exact ⟨hR, fun e => (by rw [up_at] at e; exact absurd e (by decide)), by rw [up_at, if_pos rfl]; exact hP, h.seen.up (ahead_ok he haft)⟩⟩
end
/-- two numbers in one -/
def unp : Nat → Nat × Nat
  | 0 => (0, 0)
  | n + 1 => if (unp n).1 = 0 then ((unp n).2 + 1, 0) else ((unp n).1 - 1, (unp n).2 + 1)
theorem unp_all : ∀ (s a b : Nat), a + b = s → ∃ n, unp n = (a, b) := by
  intro s
  induction s with
  | zero => intro a b h; exact ⟨0, by rw [show a = 0 by omega, show b = 0 by omega]; rfl⟩
  | succ s ih =>
    have key : ∀ b a, a + b = s + 1 → ∃ n, unp n = (a, b) := by
      intro b
      induction b with
      | zero =>
        intro a h
        obtain ⟨n, hn⟩ := ih 0 s (by omega)
        exact ⟨n + 1, by rw [unp, hn, if_pos rfl]; rw [show a = s + 1 by omega]⟩
      | succ b ihb =>
        intro a h
        obtain ⟨n, hn⟩ := ihb (a + 1) (by omega)
        exact ⟨n + 1, by rw [unp, hn, if_neg (by simp)]; simp⟩
    exact fun a b h => key b a h
end Go.Proofs.YtcjjbpbehapjpaaGreat
