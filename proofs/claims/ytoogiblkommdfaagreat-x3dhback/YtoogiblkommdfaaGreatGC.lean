/-
  A drawn region with three changes.
-/
import Derived.Test.YtoogiblkommdfaaGreatGB
namespace Go.Proofs.YtoogiblkommdfaaGreat
open Go.RowKit

structure G3 (R R' P0 : World → Prop) (P1 : Nat → World → Prop) (P2 P3 : Nat → Nat → World → Prop) (pre : Nat → List Nat) (i0 i1 i2 : Nat) (g : Nat → Nat) (d : Nat → Bool) (w : World) : Prop where
  all : R w
  mid : d i2 = false → R' w
  held : if d i2 = true then P3 (g i0) (g i1) w else if d i1 = true then P2 (g i0) (g i1) w else if d i0 = true then P1 (g i0) w else P0 w
  seen : Cl pre d
section
variable {ops : Array Oper} {Q : Exit → Act → World → Prop} {F : (Nat → Nat) → Act} {i i0 i1 i2 : Nat}
  {R R' P0 : World → Prop} {P1 : Nat → World → Prop} {P2 P3 : Nat → Nat → World → Prop} {pre : Nat → List Nat}
theorem G3.start {g : Nat → Nat} {d : Nat → Bool} {w : World} (hR : R w) (hR' : R' w) (h : P0 w) (hd : d i0 = false) (hd1 : d i1 = false) (hd2 : d i2 = false) (hc : Cl pre d) : G3 R R' P0 P1 P2 P3 pre i0 i1 i2 g d w := ⟨hR, fun _ => hR', by rw [hd, hd1, hd2]; exact h, hc⟩
theorem G3.keep {g : Nat → Nat} {d : Nat → Bool} {w : World} (h : G3 R R' P0 P1 P2 P3 pre i0 i1 i2 g d w) (h0 : i ≠ i0) (h1 : i ≠ i1) (h2 : i ≠ i2) (hm : ∀ m ∈ pre i, d m = true) : G3 R R' P0 P1 P2 P3 pre i0 i1 i2 g (up d i true) w :=
  ⟨h.all, fun e => h.mid (by rwa [up_ne _ _ (Ne.symm h2)] at e), by rw [up_ne _ _ (Ne.symm h0), up_ne _ _ (Ne.symm h1), up_ne _ _ (Ne.symm h2)]; exact h.held, h.seen.up hm⟩
theorem g3_read {o : Oper} {v : (Nat → Nat) → Value} (h0 : i ≠ i0) (h1 : i ≠ i1) (h2 : i ≠ i2) (he : ahead o.after (pre i) = true) (hw : ∀ g, Region.wanted o (yielded ops (F g).tmps) = true) (hp : ∀ g, (F g).put o.dst (v g) = F g)
    (hr : ∀ g w, R w → (execOp (F g).eval o).run Tryz.prog w = .ok (.value (v g)) w) : OpGhost Tryz.prog .any ops Q (G3 R R' P0 P1 P2 P3 pre i0 i1 i2) F i o :=
  OpGhost.take hw hp (fun g _ w h ha => ⟨hr g w h.all, h.keep h0 h1 h2 (ahead_ok he ha)⟩)
theorem g3_act1 {o : Oper} {v : Nat → Value} (h01 : i0 ≠ i1) (h12 : i1 ≠ i2) (h1 : i0 ∈ pre i1) (h2 : i1 ∈ pre i2) (he : ahead o.after (pre i1) = true) (hw : ∀ g, Region.wanted o (yielded ops (F g).tmps) = true)
    (hp : ∀ g n, (F g).put o.dst (v n) = F (up g i1 n))
    (hr : ∀ g w, R w → R' w → P1 (g i0) w → ∃ n W, (execOp (F g).eval o).run Tryz.prog w = .ok (.value (v n)) W ∧ R W ∧ R' W ∧ P2 (g i0) n W) : OpGhost Tryz.prog .any ops Q (G3 R R' P0 P1 P2 P3 pre i0 i1 i2) F i1 o := fun g d w h hdi haft => by
  rw [if_pos (hw g)]
  unfold Oper.wp
  have e1 : ¬ d i1 = true := by rw [hdi]; decide
  have e2 : ¬ d i2 = true := fun h' => e1 (h.seen i2 h' i1 h2)
  have e0 : d i0 = true := ahead_ok he haft i0 h1
  have hH := h.held
  rw [if_neg e2, if_neg e1, if_pos e0] at hH
  obtain ⟨n, W, hrun, hR, hR', hP⟩ := hr g w h.all (h.mid (by simpa using e2)) hH
  rw [hrun]
  exact ⟨n, hp g n, hR, fun _ => hR', by rw [up_ne _ _ (Ne.symm h12), if_neg e2, up_at, if_pos rfl, up_ne _ _ h01, up_at]; exact hP, h.seen.up (ahead_ok he haft)⟩
theorem g3_act2 {o : Oper} (h2 : i1 ∈ pre i2) (he : ahead o.after (pre i2) = true) (hw : ∀ g, Region.wanted o (yielded ops (F g).tmps) = true) (hp : ∀ g, (F g).put o.dst undef = F g)
    (hr : ∀ g w, R w → R' w → P2 (g i0) (g i1) w → ∃ W, (execOp (F g).eval o).run Tryz.prog w = .ok .skip W ∧ R W ∧ P3 (g i0) (g i1) W) : OpGhost Tryz.prog .any ops Q (G3 R R' P0 P1 P2 P3 pre i0 i1 i2) F i2 o := fun g d w h hdi haft => by
  rw [if_pos (hw g)]
  unfold Oper.wp
  have e2 : ¬ d i2 = true := by rw [hdi]; decide
  have e1 : d i1 = true := ahead_ok he haft i1 h2
  have hH := h.held
  rw [if_neg e2, if_pos e1] at hH
  obtain ⟨W, hrun, hR, hP⟩ := hr g w h.all (h.mid (by simpa using e2)) hH
  rw [hrun]
  exact ⟨g i2, by rw [up_self]; exact hp g, by rw [up_self]; exact ⟨hR, fun e => (by rw [up_at] at e; exact absurd e (by decide)), by rw [up_at, if_pos rfl]; exact hP, h.seen.up (ahead_ok he haft)⟩⟩
end
/-- two numbers in one -/
def unp : Nat → Nat × Nat
  | 0 => (0, 0)
  | n + 1 => if (unp n).1 = 0 then ((unp n).2 + 1, 0) else ((unp n).1 - 1, (unp n).2 + 1)
theorem unp_all : ∀ (s a b : Nat), a + b = s → ∃ n, unp n = (a, b) := by
  intro s
  induction s with
  | zero => intro a b h; exact ⟨0, by rw [show a = 0 by omega, show b = 0 by omega]; rfl⟩
  | succ s ih =>
    have key : ∀ b a, a + b = s + 1 → ∃ n, unp n = (a, b) := by
      intro b
      induction b with
      | zero =>
        intro a h
        obtain ⟨n, hn⟩ := ih 0 s (by omega)
        exact ⟨n + 1, by rw [unp, hn, if_pos rfl]; rw [show a = s + 1 by omega]⟩
      | succ b ihb =>
        intro a h
        obtain ⟨n, hn⟩ := ihb (a + 1) (by omega)
        exact ⟨n + 1, by rw [unp, hn, if_neg (by simp)]; simp⟩
    exact fun a b h => key b a h
end Go.Proofs.YtoogiblkommdfaaGreat

namespace Go.Proofs.YtoogiblkommdfaaGreat
open Go.RowKit

end Go.Proofs.YtoogiblkommdfaaGreat

namespace Go.Proofs.YtoogiblkommdfaaGreat
open Go.RowKit

end Go.Proofs.YtoogiblkommdfaaGreat

namespace Go.Proofs.YtoogiblkommdfaaGreat
open Go.RowKit

/-! what is laid -/
/-- what every table has besides -/
structure Wg (es : List Ent) : Prop where
  lt : ∀ (i : Nat) k n s ps b, es[i]? = some (Ent.mk k n s ps b) → ∀ x ∈ ps, x < es.length
  two : ∀ (i : Nat) n s ps b, es[i]? = some (Ent.mk 4 n s ps b) → ps.length = 2
  four : ∀ (i : Nat) n s ps b, es[i]? = some (Ent.mk 6 n s ps b) → ps.length = 4
  sig : ∀ (i : Nat) n s ps b, es[i]? = some (Ent.mk 7 n s ps b) → ps.length = 2
theorem Wg.nil : Wg [] := ⟨fun i _ _ _ _ _ h => by simp at h, fun i _ _ _ _ h => by simp at h, fun i _ _ _ _ h => by simp at h, fun i _ _ _ _ h => by simp at h⟩
theorem Wg.app {es : List Ent} (h : Wg es) (e : Ent) (h1 : ∀ k n s ps b, e = .mk k n s ps b → (∀ x ∈ ps, x < es.length) ∧ (k = 4 → ps.length = 2) ∧ (k = 6 → ps.length = 4) ∧ (k = 7 → ps.length = 2)) : Wg (es ++ [e]) := by
  have key : ∀ (i : Nat) x, (es ++ [e])[i]? = some x → es[i]? = some x ∨ x = e := fun i x hx => by
    rcases Nat.lt_or_ge i es.length with hi | hi
    · rw [List.getElem?_append_left hi] at hx; exact .inl hx
    · rw [List.getElem?_append_right hi] at hx
      cases hj : i - es.length with
      | zero => rw [hj] at hx; exact .inr (Option.some.inj hx).symm
      | succ j => rw [hj] at hx; cases hx
  refine ⟨fun i k n s ps b hi x hx => ?_, fun i n s ps b hi => ?_, fun i n s ps b hi => ?_, fun i n s ps b hi => ?_⟩
  · rw [List.length_append, List.length_singleton]
    rcases key i _ hi with h' | h'
    · have := h.lt i k n s ps b h' x hx; omega
    · have := (h1 k n s ps b h'.symm).1 x hx; omega
  · rcases key i _ hi with h' | h'
    · exact h.two i n s ps b h'
    · exact (h1 4 n s ps b h'.symm).2.1 rfl
  · rcases key i _ hi with h' | h'
    · exact h.four i n s ps b h'
    · exact (h1 6 n s ps b h'.symm).2.2.1 rfl
  · rcases key i _ hi with h' | h'
    · exact h.sig i n s ps b h'
    · exact (h1 7 n s ps b h'.symm).2.2.2 rfl
theorem Wg.nm {es : List Ent} (h : Wg es) (n : Nat) : Wg (es ++ [.nm n]) := h.app _ (fun _ _ _ _ _ h => by cases h)
theorem Wg.part {es : List Ent} (h : Wg es) (s : ByteArray) : Wg (partF es s).1 := by
  unfold partF
  split
  · exact h
  · split
    · exact h
    · exact h.app _ (fun _ _ _ _ _ h => by cases h)
theorem Wg.parts {es : List Ent} (h : Wg es) (ss : List ByteArray) : ∀ k, Wg (pfE es ss k)
  | 0 => h
  | k + 1 => (h.parts ss k).part _
theorem secT_lt {es : List Ent} (h : Wg es) (h' : Wf es) {p b : Nat} (hb : secT es p = some b) : b < es.length := by
  unfold secT at hb
  split at hb
  · rename_i k n s ps c he
    split at hb
    · rename_i hk
      subst hk
      obtain rfl := Option.some.inj hb
      have hl := h'.one p n s ps c he
      refine h.lt p 3 n s ps c he _ ?_
      rw [List.getD_eq_getElem?_getD, List.getElem?_eq_getElem (by omega)]
      exact List.getElem_mem _
    · cases hb
  · cases hb
theorem JO.wg {es es' : List Ent} {k x : Nat} {label : ByteArray} {ss : List ByteArray} (hg : Wg es) (hw : Wf es) (h : JO es k label ss x es') (hl : es.length + ss.length < 60000) (h4 : k = 4 → ss.length = 2) (h6 : k = 6 → ss.length = 4) (h7 : k = 7 → ss.length = 2) : Wg es' := by
  have h1 := hg.parts ss ss.length
  have h2 := hw.parts ss ss.length (by omega)
  rcases h with ⟨_, rfl⟩ | ⟨_, _, b, rfl⟩
  · exact h1
  · refine h1.app _ (fun k' n' s' ps' b' e => ?_)
    cases e
    by_cases hk : k = 4
    · subst hk
      have e3 : joinP (pfE es ss ss.length) 4 (pfN es ss ss.length) = dhP (pfE es ss ss.length) ((pfN es ss ss.length).getD 0 0) ((pfN es ss ss.length).getD 1 0) := if_pos rfl
      have n0 := ns_lt es ss (j := 0) (by have := h4 rfl; omega)
      have n1 := ns_lt es ss (j := 1) (by have := h4 rfl; omega)
      rw [e3]
      refine ⟨fun y hy => ?_, fun _ => dhP_len _ _ _, fun h => by omega, fun h => by omega⟩
      unfold dhP at hy
      split at hy
      · rename_i c hc
        have := secT_lt h1 h2 hc
        simp only [List.mem_cons, List.not_mem_nil, or_false] at hy
        omega
      · simp only [List.mem_cons, List.not_mem_nil, or_false] at hy
        omega
    · have e3 : joinP (pfE es ss ss.length) k (pfN es ss ss.length) = pfN es ss ss.length := if_neg hk
      rw [e3]
      exact ⟨pfN_lt es ss ss.length, fun h => absurd h hk, fun h => by rw [pfN_len]; exact h6 h, fun h => by rw [pfN_len]; exact h7 h⟩
end Go.Proofs.YtoogiblkommdfaaGreat
