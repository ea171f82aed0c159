/-
  A drawn region with three changes.
-/
import Derived.Test.YtcjjbpbehapjpaaGreatGA
namespace Go.Proofs.YtcjjbpbehapjpaaGreat
open Go.RowKit

structure G3 (R R' P0 : World → Prop) (P1 : Nat → World → Prop) (P2 P3 : Nat → Nat → World → Prop) (pre : Nat → List Nat) (i0 i1 i2 : Nat) (g : Nat → Nat) (d : Nat → Bool) (w : World) : Prop where
  all : R w
  mid : d i2 = false → R' w
  held : if d i2 = true then P3 (g i0) (g i1) w else if d i1 = true then P2 (g i0) (g i1) w else if d i0 = true then P1 (g i0) w else P0 w
  seen : Cl pre d
section
variable {ops : Array Oper} {Q : Exit → Act → World → Prop} {F : (Nat → Nat) → Act} {i i0 i1 i2 : Nat}
  {R R' P0 : World → Prop} {P1 : Nat → World → Prop} {P2 P3 : Nat → Nat → World → Prop} {pre : Nat → List Nat}
theorem G3.start {g : Nat → Nat} {d : Nat → Bool} {w : World} (hR : R w) (hR' : R' w) (h : P0 w) (hd : d i0 = false) (hd1 : d i1 = false) (hd2 : d i2 = false) (hc : Cl pre d) : G3 R R' P0 P1 P2 P3 pre i0 i1 i2 g d w := ⟨hR, fun _ => hR', by rw [hd, hd1, hd2]; exact h, hc⟩
theorem G3.keep {g : Nat → Nat} {d : Nat → Bool} {w : World} (h : G3 R R' P0 P1 P2 P3 pre i0 i1 i2 g d w) (h0 : i ≠ i0) (h1 : i ≠ i1) (h2 : i ≠ i2) (hm : ∀ m ∈ pre i, d m = true) : G3 R R' P0 P1 P2 P3 pre i0 i1 i2 g (up d i true) w :=
  ⟨h.all, fun e => h.mid (by rwa [up_ne _ _ (Ne.symm h2)] at e), by rw [up_ne _ _ (Ne.symm h0), up_ne _ _ (Ne.symm h1), up_ne _ _ (Ne.symm h2)]; exact h.held, h.seen.up hm⟩
theorem g3_read {o : Oper} {v : (Nat → Nat) → Value} (h0 : i ≠ i0) (h1 : i ≠ i1) (h2 : i ≠ i2) (he : ahead o.after (pre i) = true) (hw : ∀ g, Region.wanted o (yielded ops (F g).tmps) = true) (hp : ∀ g, (F g).put o.dst (v g) = F g)
    (hr : ∀ g w, R w → (execOp (F g).eval o).run Tryz.prog w = .ok (.value (v g)) w) : OpGhost Tryz.prog .any ops Q (G3 R R' P0 P1 P2 P3 pre i0 i1 i2) F i o :=
  OpGhost.take hw hp (fun g _ w h ha => ⟨hr g w h.all, h.keep h0 h1 h2 (ahead_ok he ha)⟩)
/-- what is read ahead of the last change -/
theorem g3_readM {o : Oper} {v : (Nat → Nat) → Value} (h0 : i ≠ i0) (h1 : i ≠ i1) (h2 : i ≠ i2) (hi : i ∈ pre i2) (he : ahead o.after (pre i) = true) (hw : ∀ g, Region.wanted o (yielded ops (F g).tmps) = true) (hp : ∀ g, (F g).put o.dst (v g) = F g)
    (hr : ∀ g w, R' w → (execOp (F g).eval o).run Tryz.prog w = .ok (.value (v g)) w) : OpGhost Tryz.prog .any ops Q (G3 R R' P0 P1 P2 P3 pre i0 i1 i2) F i o := fun g d w h hdi ha => by
  rw [if_pos (hw g)]
  unfold Oper.wp
  have e2 : d i2 = false := by
    cases hd : d i2 with
    | false => rfl
    | true => have := h.seen i2 hd i hi; rw [hdi] at this; cases this
  rw [hr g w (h.mid e2)]
  exact ⟨g i, by rw [up_self]; exact hp g, by rw [up_self]; exact h.keep h0 h1 h2 (ahead_ok he ha)⟩
theorem g3_act0 {o : Oper} {v : Nat → Value} (h01 : i0 ≠ i1) (h02 : i0 ≠ i2) (h1 : i0 ∈ pre i1) (h2 : i0 ∈ pre i2) (he : ahead o.after (pre i0) = true) (hw : ∀ g, Region.wanted o (yielded ops (F g).tmps) = true)
    (hp : ∀ g n, (F g).put o.dst (v n) = F (up g i0 n))
    (hr : ∀ g w, R w → R' w → P0 w → ∃ n W, (execOp (F g).eval o).run Tryz.prog w = .ok (.value (v n)) W ∧ R W ∧ R' W ∧ P1 n W) : OpGhost Tryz.prog .any ops Q (G3 R R' P0 P1 P2 P3 pre i0 i1 i2) F i0 o := fun g d w h hdi haft => by
  rw [if_pos (hw g)]
  unfold Oper.wp
  have e0 : ¬ d i0 = true := by rw [hdi]; decide
  have e1 : ¬ d i1 = true := fun h' => e0 (h.seen i1 h' i0 h1)
  have e2 : ¬ d i2 = true := fun h' => e0 (h.seen i2 h' i0 h2)
  have hH := h.held
  rw [if_neg e2, if_neg e1, if_neg e0] at hH
  obtain ⟨n, W, hrun, hR, hR', hP⟩ := hr g w h.all (h.mid (by simpa using e2)) hH
  rw [hrun]
  exact ⟨n, hp g n, hR, fun _ => hR', by rw [up_ne _ _ (Ne.symm h02), if_neg e2, up_ne _ _ (Ne.symm h01), if_neg e1, up_at, if_pos rfl, up_at]; exact hP, h.seen.up (ahead_ok he haft)⟩
theorem g3_act1 {o : Oper} {v : Nat → Value} (h01 : i0 ≠ i1) (h12 : i1 ≠ i2) (h1 : i0 ∈ pre i1) (h2 : i1 ∈ pre i2) (he : ahead o.after (pre i1) = true) (hw : ∀ g, Region.wanted o (yielded ops (F g).tmps) = true)
    (hp : ∀ g n, (F g).put o.dst (v n) = F (up g i1 n))
    (hr : ∀ g w, R w → R' w → P1 (g i0) w → ∃ n W, (execOp (F g).eval o).run Tryz.prog w = .ok (.value (v n)) W ∧ R W ∧ R' W ∧ P2 (g i0) n W) : OpGhost Tryz.prog .any ops Q (G3 R R' P0 P1 P2 P3 pre i0 i1 i2) F i1 o := fun g d w h hdi haft => by
  rw [if_pos (hw g)]
  unfold Oper.wp
  have e1 : ¬ d i1 = true := by rw [hdi]; decide
  have e2 : ¬ d i2 = true := fun h' => e1 (h.seen i2 h' i1 h2)
  have e0 : d i0 = true := ahead_ok he haft i0 h1
  have hH := h.held
  rw [if_neg e2, if_neg e1, if_pos e0] at hH
  obtain ⟨n, W, hrun, hR, hR', hP⟩ := hr g w h.all (h.mid (by simpa using e2)) hH
  rw [hrun]
  exact ⟨n, hp g n, hR, fun _ => hR', by rw [up_ne _ _ (Ne.symm h12), if_neg e2, up_at, if_pos rfl, up_ne _ _ h01, up_at]; exact hP, h.seen.up (ahead_ok he haft)⟩
theorem g3_act2 {o : Oper} (h2 : i1 ∈ pre i2) (he : ahead o.after (pre i2) = true) (hw : ∀ g, Region.wanted o (yielded ops (F g).tmps) = true) (hp : ∀ g, (F g).put o.dst undef = F g)
    (hr : ∀ g w, R w → R' w → P2 (g i0) (g i1) w → ∃ W, (execOp (F g).eval o).run Tryz.prog w = .ok .skip W ∧ R W ∧ P3 (g i0) (g i1) W) : OpGhost Tryz.prog .any ops Q (G3 R R' P0 P1 P2 P3 pre i0 i1 i2) F i2 o := fun g d w h hdi haft => by
  rw [if_pos (hw g)]
  unfold Oper.wp
  have e2 : ¬ d i2 = true := by rw [hdi]; decide
  have e1 : d i1 = true := ahead_ok he haft i1 h2
  have hH := h.held
  rw [if_neg e2, if_pos e1] at hH
  obtain ⟨W, hrun, hR, hP⟩ := hr g w h.all (h.mid (by simpa using e2)) hH
  rw [hrun]
  exact ⟨g i2, by rw [up_self]; exact hp g, by rw [up_self]; exact ⟨hR, fun e => (by rw [up_at] at e; exact absurd e (by decide)), by rw [up_at, if_pos rfl]; exact hP, h.seen.up (ahead_ok he haft)⟩⟩
end
/-- two numbers in one -/
def unp : Nat → Nat × Nat
  | 0 => (0, 0)
  | n + 1 => if (unp n).1 = 0 then ((unp n).2 + 1, 0) else ((unp n).1 - 1, (unp n).2 + 1)
theorem unp_all : ∀ (s a b : Nat), a + b = s → ∃ n, unp n = (a, b) := by
  intro s
  induction s with
  | zero => intro a b h; exact ⟨0, by rw [show a = 0 by omega, show b = 0 by omega]; rfl⟩
  | succ s ih =>
    have key : ∀ b a, a + b = s + 1 → ∃ n, unp n = (a, b) := by
      intro b
      induction b with
      | zero =>
        intro a h
        obtain ⟨n, hn⟩ := ih 0 s (by omega)
        exact ⟨n + 1, by rw [unp, hn, if_pos rfl]; rw [show a = s + 1 by omega]⟩
      | succ b ihb =>
        intro a h
        obtain ⟨n, hn⟩ := ihb (a + 1) (by omega)
        exact ⟨n + 1, by rw [unp, hn, if_neg (by simp)]; simp⟩
    exact fun a b h => key b a h
/-- a row that is read: beside the web, or in old memory -/
def Rd3 (z : Base) (L : BL) (o : Option Addr) (l : List Nat) : Prop := l = [] ∨ ∃ q c, o = some ⟨q, 0, none⟩ ∧ ((q, 3, c) ∈ L ∨ Blk z.w q 3 c) ∧ ∀ j, j < l.length → c[j]? = some (iN .i64 (l.getD j 0))
theorem Rd3.cell {z : Base} {L A : BL} {q : Nat} {c : Array Value} (h : (q, 3, c) ∈ L ∨ Blk z.w q 3 c) {w : World} (H : HA z A w) (hs : ∀ x ∈ L, x ∈ A) : Blk w q 3 c := by
  rcases h with h | h
  · exact H.blk _ (hs _ h)
  · exact h.keep H.old.old
theorem askS_len (k : Nat) (l : List Nat) : ∀ a : List (List Nat), (l.foldl (fun a x => a.set x (a.getD x [] ++ [k])) a).length = a.length := by
  induction l with
  | nil => exact fun _ => rfl
  | cons x l ih => intro a; rw [List.foldl_cons, ih]; simp
def askK (st : St) (k : Nat) (l : List Nat) (i : Nat) : List (List Nat) := (l.take i).foldl (fun a x => a.set x (a.getD x [] ++ [k])) st.asked
theorem askK_step (st : St) (k : Nat) (l : List Nat) (i : Nat) (h : i < l.length) : askK st k l (i + 1) = (askK st k l i).set (l.getD i 0) ((askK st k l i).getD (l.getD i 0) [] ++ [k]) := by
  unfold askK
  rw [List.take_succ_eq_append_getElem h, List.foldl_append, List.getD_eq_getElem?_getD, List.getElem?_eq_getElem h]
  rfl
theorem askK_len (st : St) (k : Nat) (l : List Nat) (i : Nat) : (askK st k l i).length = st.asked.length := askS_len k _ _
theorem ask_mem {k : Nat} (l : List Nat) : ∀ (a : List (List Nat)) (n : Nat), (∀ r ∈ a, ∀ y ∈ r, y < n) → k < n → ∀ r ∈ l.foldl (fun a x => a.set x (a.getD x [] ++ [k])) a, ∀ y ∈ r, y < n := by
  induction l with
  | nil => exact fun a n h _ => h
  | cons x l ih =>
    intro a n h hk
    refine ih _ n (fun r hr y hy => ?_) hk
    rcases List.mem_or_eq_of_mem_set hr with hr | rfl
    · exact h r hr y hy
    · rcases List.mem_append.1 hy with hy | hy
      · rw [List.getD_eq_getElem?_getD] at hy
        cases hx : a[x]? with
        | none => rw [hx] at hy; simp at hy
        | some r' => rw [hx] at hy; exact h r' (List.mem_of_getElem? hx) y hy
      · rw [List.mem_singleton] at hy; rw [hy]; exact hk
theorem ruleS_ok {m : Nat} {st : St} (h : Wok m st) {x : Nat} (hx : x < m) (l : List Nat) : Wok m (ruleS st x l) := by
  have h1 : Wok m { st with asked := askS st st.rules.length l, rules := st.rules ++ [((l.length : Int), x)] } := by
    refine ⟨(askS_len _ _ _).trans h.al, h.kl, fun r hr => ?_, ?_, h.nx, h.nl⟩
    · rcases List.mem_append.1 hr with hr | hr
      · exact h.th r hr
      · rw [List.mem_singleton] at hr; rw [hr]; exact hx
    · exact ask_mem l st.asked _ (fun r hr y hy => by have := h.rl r hr y hy; simp; omega) (by simp)
  unfold ruleS
  simp only
  split
  · exact learnS_ok h1 hx
  · exact h1
def tot (a : List (List Nat)) : Nat := (a.map List.length).sum
theorem tot_get : ∀ (a : List (List Nat)) (y : Nat), (a.getD y []).length ≤ tot a
  | [], y => by simp
  | x :: a, 0 => by simp [tot]
  | x :: a, y + 1 => by
    have := tot_get a y
    simp only [tot, List.map_cons, List.sum_cons, List.getD_cons_succ] at this ⊢
    omega
theorem tot_set : ∀ (a : List (List Nat)) (y k : Nat), tot (a.set y (a.getD y [] ++ [k])) ≤ tot a + 1
  | [], y, k => by simp [tot]
  | x :: a, 0, k => by simp [tot]; omega
  | x :: a, y + 1, k => by
    have := tot_set a y k
    simp only [tot, List.map_cons, List.sum_cons, List.getD_cons_succ, List.set_cons_succ] at this ⊢
    omega
theorem tot_ask {k : Nat} (l : List Nat) : ∀ a : List (List Nat), tot (l.foldl (fun a x => a.set x (a.getD x [] ++ [k])) a) ≤ tot a + l.length := by
  induction l with
  | nil => intro a; simp
  | cons x l ih =>
    intro a
    have h1 := ih (a.set x (a.getD x [] ++ [k]))
    have h2 := tot_set a x k
    simp only [List.foldl_cons, List.length_cons]
    omega
def siz (st : St) : Nat := st.rules.length + tot st.asked
theorem siz_rule (st : St) (x : Nat) (l : List Nat) : siz (ruleS st x l) ≤ siz st + l.length + 1 := by
  have h := tot_ask (k := st.rules.length) l st.asked
  have key : siz (ruleS st x l) = (st.rules ++ [((l.length : Int), x)]).length + tot (askS st st.rules.length l) := by
    unfold ruleS
    simp only
    split
    · have := learnS_rules { st with asked := askS st st.rules.length l, rules := st.rules ++ [((l.length : Int), x)] } x
      unfold siz
      rw [this.1, this.2]
    · rfl
  rw [key]
  unfold siz askS
  simp only [List.length_append, List.length_singleton]
  omega
end Go.Proofs.YtcjjbpbehapjpaaGreat
