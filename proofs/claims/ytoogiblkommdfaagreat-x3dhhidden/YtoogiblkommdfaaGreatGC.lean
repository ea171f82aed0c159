/-
  A drawn region with three changes.
-/
import Derived.Test.YtoogiblkommdfaaGreatGB
set_option linter.unusedVariables false
namespace Go.Proofs.YtoogiblkommdfaaGreat
open Go.RowKit

structure G3 (R R' P0 : World → Prop) (P1 : Nat → World → Prop) (P2 P3 : Nat → Nat → World → Prop) (pre : Nat → List Nat) (i0 i1 i2 : Nat) (g : Nat → Nat) (d : Nat → Bool) (w : World) : Prop where
  all : R w
  mid : d i2 = false → R' w
  held : if d i2 = true then P3 (g i0) (g i1) w else if d i1 = true then P2 (g i0) (g i1) w else if d i0 = true then P1 (g i0) w else P0 w
  seen : Cl pre d
section
variable {ops : Array Oper} {Q : Exit → Act → World → Prop} {F : (Nat → Nat) → Act} {i i0 i1 i2 : Nat}
  {R R' P0 : World → Prop} {P1 : Nat → World → Prop} {P2 P3 : Nat → Nat → World → Prop} {pre : Nat → List Nat}
theorem G3.start {g : Nat → Nat} {d : Nat → Bool} {w : World} (hR : R w) (hR' : R' w) (h : P0 w) (hd : d i0 = false) (hd1 : d i1 = false) (hd2 : d i2 = false) (hc : Cl pre d) : G3 R R' P0 P1 P2 P3 pre i0 i1 i2 g d w := ⟨hR, fun _ => hR', by rw [hd, hd1, hd2]; exact h, hc⟩
theorem G3.keep {g : Nat → Nat} {d : Nat → Bool} {w : World} (h : G3 R R' P0 P1 P2 P3 pre i0 i1 i2 g d w) (h0 : i ≠ i0) (h1 : i ≠ i1) (h2 : i ≠ i2) (hm : ∀ m ∈ pre i, d m = true) : G3 R R' P0 P1 P2 P3 pre i0 i1 i2 g (up d i true) w :=
  ⟨h.all, fun e => h.mid (by rwa [up_ne _ _ (Ne.symm h2)] at e), by rw [up_ne _ _ (Ne.symm h0), up_ne _ _ (Ne.symm h1), up_ne _ _ (Ne.symm h2)]; exact h.held, h.seen.up hm⟩
theorem g3_read {o : Oper} {v : (Nat → Nat) → Value} (h0 : i ≠ i0) (h1 : i ≠ i1) (h2 : i ≠ i2) (he : ahead o.after (pre i) = true) (hw : ∀ g, Region.wanted o (yielded ops (F g).tmps) = true) (hp : ∀ g, (F g).put o.dst (v g) = F g)
    (hr : ∀ g w, R w → (execOp (F g).eval o).run Tryz.prog w = .ok (.value (v g)) w) : OpGhost Tryz.prog .any ops Q (G3 R R' P0 P1 P2 P3 pre i0 i1 i2) F i o :=
  OpGhost.take hw hp (fun g _ w h ha => ⟨hr g w h.all, h.keep h0 h1 h2 (ahead_ok he ha)⟩)
/-- what is read ahead of the last change -/
theorem g3_readM {o : Oper} {v : (Nat → Nat) → Value} (h0 : i ≠ i0) (h1 : i ≠ i1) (h2 : i ≠ i2) (hi : i ∈ pre i2) (he : ahead o.after (pre i) = true) (hw : ∀ g, Region.wanted o (yielded ops (F g).tmps) = true) (hp : ∀ g, (F g).put o.dst (v g) = F g)
    (hr : ∀ g w, R' w → (execOp (F g).eval o).run Tryz.prog w = .ok (.value (v g)) w) : OpGhost Tryz.prog .any ops Q (G3 R R' P0 P1 P2 P3 pre i0 i1 i2) F i o := fun g d w h hdi ha => by
  rw [if_pos (hw g)]
  unfold Oper.wp
  have e2 : d i2 = false := by
    cases hd : d i2 with
    | false => rfl
    | true => have := h.seen i2 hd i hi; rw [hdi] at this; cases this
  rw [hr g w (h.mid e2)]
  exact ⟨g i, by rw [up_self]; exact hp g, by rw [up_self]; exact h.keep h0 h1 h2 (ahead_ok he ha)⟩
theorem g3_act0 {o : Oper} {v : Nat → Value} (h01 : i0 ≠ i1) (h02 : i0 ≠ i2) (h1 : i0 ∈ pre i1) (h2 : i0 ∈ pre i2) (he : ahead o.after (pre i0) = true) (hw : ∀ g, Region.wanted o (yielded ops (F g).tmps) = true)
    (hp : ∀ g n, (F g).put o.dst (v n) = F (up g i0 n))
    (hr : ∀ g w, R w → R' w → P0 w → ∃ n W, (execOp (F g).eval o).run Tryz.prog w = .ok (.value (v n)) W ∧ R W ∧ R' W ∧ P1 n W) : OpGhost Tryz.prog .any ops Q (G3 R R' P0 P1 P2 P3 pre i0 i1 i2) F i0 o := fun g d w h hdi haft => by
  rw [if_pos (hw g)]
  unfold Oper.wp
  have e0 : ¬ d i0 = true := by rw [hdi]; decide
  have e1 : ¬ d i1 = true := fun h' => e0 (h.seen i1 h' i0 h1)
  have e2 : ¬ d i2 = true := fun h' => e0 (h.seen i2 h' i0 h2)
  have hH := h.held
  rw [if_neg e2, if_neg e1, if_neg e0] at hH
  obtain ⟨n, W, hrun, hR, hR', hP⟩ := hr g w h.all (h.mid (by simpa using e2)) hH
  rw [hrun]
  exact ⟨n, hp g n, hR, fun _ => hR', by rw [up_ne _ _ (Ne.symm h02), if_neg e2, up_ne _ _ (Ne.symm h01), if_neg e1, up_at, if_pos rfl, up_at]; exact hP, h.seen.up (ahead_ok he haft)⟩
theorem g3_act1 {o : Oper} {v : Nat → Value} (h01 : i0 ≠ i1) (h12 : i1 ≠ i2) (h1 : i0 ∈ pre i1) (h2 : i1 ∈ pre i2) (he : ahead o.after (pre i1) = true) (hw : ∀ g, Region.wanted o (yielded ops (F g).tmps) = true)
    (hp : ∀ g n, (F g).put o.dst (v n) = F (up g i1 n))
    (hr : ∀ g w, R w → R' w → P1 (g i0) w → ∃ n W, (execOp (F g).eval o).run Tryz.prog w = .ok (.value (v n)) W ∧ R W ∧ R' W ∧ P2 (g i0) n W) : OpGhost Tryz.prog .any ops Q (G3 R R' P0 P1 P2 P3 pre i0 i1 i2) F i1 o := fun g d w h hdi haft => by
  rw [if_pos (hw g)]
  unfold Oper.wp
  have e1 : ¬ d i1 = true := by rw [hdi]; decide
  have e2 : ¬ d i2 = true := fun h' => e1 (h.seen i2 h' i1 h2)
  have e0 : d i0 = true := ahead_ok he haft i0 h1
  have hH := h.held
  rw [if_neg e2, if_neg e1, if_pos e0] at hH
  obtain ⟨n, W, hrun, hR, hR', hP⟩ := hr g w h.all (h.mid (by simpa using e2)) hH
  rw [hrun]
  exact ⟨n, hp g n, hR, fun _ => hR', by rw [up_ne _ _ (Ne.symm h12), if_neg e2, up_at, if_pos rfl, up_ne _ _ h01, up_at]; exact hP, h.seen.up (ahead_ok he haft)⟩
theorem g3_act2 {o : Oper} (h2 : i1 ∈ pre i2) (he : ahead o.after (pre i2) = true) (hw : ∀ g, Region.wanted o (yielded ops (F g).tmps) = true) (hp : ∀ g, (F g).put o.dst undef = F g)
    (hr : ∀ g w, R w → R' w → P2 (g i0) (g i1) w → ∃ W, (execOp (F g).eval o).run Tryz.prog w = .ok .skip W ∧ R W ∧ P3 (g i0) (g i1) W) : OpGhost Tryz.prog .any ops Q (G3 R R' P0 P1 P2 P3 pre i0 i1 i2) F i2 o := fun g d w h hdi haft => by
  rw [if_pos (hw g)]
  unfold Oper.wp
  have e2 : ¬ d i2 = true := by rw [hdi]; decide
  have e1 : d i1 = true := ahead_ok he haft i1 h2
  have hH := h.held
  rw [if_neg e2, if_pos e1] at hH
  obtain ⟨W, hrun, hR, hP⟩ := hr g w h.all (h.mid (by simpa using e2)) hH
  rw [hrun]
  exact ⟨g i2, by rw [up_self]; exact hp g, by rw [up_self]; exact ⟨hR, fun e => (by rw [up_at] at e; exact absurd e (by decide)), by rw [up_at, if_pos rfl]; exact hP, h.seen.up (ahead_ok he haft)⟩⟩
end
/-- two numbers in one -/
def unp : Nat → Nat × Nat
  | 0 => (0, 0)
  | n + 1 => if (unp n).1 = 0 then ((unp n).2 + 1, 0) else ((unp n).1 - 1, (unp n).2 + 1)
theorem unp_all : ∀ (s a b : Nat), a + b = s → ∃ n, unp n = (a, b) := by
  intro s
  induction s with
  | zero => intro a b h; exact ⟨0, by rw [show a = 0 by omega, show b = 0 by omega]; rfl⟩
  | succ s ih =>
    have key : ∀ b a, a + b = s + 1 → ∃ n, unp n = (a, b) := by
      intro b
      induction b with
      | zero =>
        intro a h
        obtain ⟨n, hn⟩ := ih 0 s (by omega)
        exact ⟨n + 1, by rw [unp, hn, if_pos rfl]; rw [show a = s + 1 by omega]⟩
      | succ b ihb =>
        intro a h
        obtain ⟨n, hn⟩ := ihb (a + 1) (by omega)
        exact ⟨n + 1, by rw [unp, hn, if_neg (by simp)]; simp⟩
    exact fun a b h => key b a h
/-- a row that is read: beside the web, or in old memory -/
def Rd3 (z : Base) (L : BL) (o : Option Addr) (l : List Nat) : Prop := l = [] ∨ ∃ q c, o = some ⟨q, 0, none⟩ ∧ ((q, 3, c) ∈ L ∨ Blk z.w q 3 c) ∧ ∀ j, j < l.length → c[j]? = some (iN .i64 (l.getD j 0))
theorem Rd3.cell {z : Base} {L A : BL} {q : Nat} {c : Array Value} (h : (q, 3, c) ∈ L ∨ Blk z.w q 3 c) {w : World} (H : HA z A w) (hs : ∀ x ∈ L, x ∈ A) : Blk w q 3 c := by
  rcases h with h | h
  · exact H.blk _ (hs _ h)
  · exact h.keep H.old.old
theorem askS_len (k : Nat) (l : List Nat) : ∀ a : List (List Nat), (l.foldl (fun a x => a.set x (a.getD x [] ++ [k])) a).length = a.length := by
  induction l with
  | nil => exact fun _ => rfl
  | cons x l ih => intro a; rw [List.foldl_cons, ih]; simp
def askK (st : St) (k : Nat) (l : List Nat) (i : Nat) : List (List Nat) := (l.take i).foldl (fun a x => a.set x (a.getD x [] ++ [k])) st.asked
theorem askK_step (st : St) (k : Nat) (l : List Nat) (i : Nat) (h : i < l.length) : askK st k l (i + 1) = (askK st k l i).set (l.getD i 0) ((askK st k l i).getD (l.getD i 0) [] ++ [k]) := by
  unfold askK
  rw [List.take_succ_eq_append_getElem h, List.foldl_append, List.getD_eq_getElem?_getD, List.getElem?_eq_getElem h]
  rfl
theorem askK_len (st : St) (k : Nat) (l : List Nat) (i : Nat) : (askK st k l i).length = st.asked.length := askS_len k _ _
theorem ask_mem {k : Nat} (l : List Nat) : ∀ (a : List (List Nat)) (n : Nat), (∀ r ∈ a, ∀ y ∈ r, y < n) → k < n → ∀ r ∈ l.foldl (fun a x => a.set x (a.getD x [] ++ [k])) a, ∀ y ∈ r, y < n := by
  induction l with
  | nil => exact fun a n h _ => h
  | cons x l ih =>
    intro a n h hk
    refine ih _ n (fun r hr y hy => ?_) hk
    rcases List.mem_or_eq_of_mem_set hr with hr | rfl
    · exact h r hr y hy
    · rcases List.mem_append.1 hy with hy | hy
      · rw [List.getD_eq_getElem?_getD] at hy
        cases hx : a[x]? with
        | none => rw [hx] at hy; simp at hy
        | some r' => rw [hx] at hy; exact h r' (List.mem_of_getElem? hx) y hy
      · rw [List.mem_singleton] at hy; rw [hy]; exact hk
theorem ruleS_ok {m : Nat} {st : St} (h : Wok m st) {x : Nat} (hx : x < m) (l : List Nat) : Wok m (ruleS st x l) := by
  have h1 : Wok m { st with asked := askS st st.rules.length l, rules := st.rules ++ [((l.length : Int), x)] } := by
    refine ⟨(askS_len _ _ _).trans h.al, h.kl, fun r hr => ?_, ?_, h.nx, h.nl⟩
    · rcases List.mem_append.1 hr with hr | hr
      · exact h.th r hr
      · rw [List.mem_singleton] at hr; rw [hr]; exact hx
    · exact ask_mem l st.asked _ (fun r hr y hy => by have := h.rl r hr y hy; simp; omega) (by simp)
  unfold ruleS
  simp only
  split
  · exact learnS_ok h1 hx
  · exact h1
def tot (a : List (List Nat)) : Nat := (a.map List.length).sum
theorem tot_get : ∀ (a : List (List Nat)) (y : Nat), (a.getD y []).length ≤ tot a
  | [], y => by simp
  | x :: a, 0 => by simp [tot]
  | x :: a, y + 1 => by
    have := tot_get a y
    simp only [tot, List.map_cons, List.sum_cons, List.getD_cons_succ] at this ⊢
    omega
theorem tot_set : ∀ (a : List (List Nat)) (y k : Nat), tot (a.set y (a.getD y [] ++ [k])) ≤ tot a + 1
  | [], y, k => by simp [tot]
  | x :: a, 0, k => by simp [tot]; omega
  | x :: a, y + 1, k => by
    have := tot_set a y k
    simp only [tot, List.map_cons, List.sum_cons, List.getD_cons_succ, List.set_cons_succ] at this ⊢
    omega
theorem tot_ask {k : Nat} (l : List Nat) : ∀ a : List (List Nat), tot (l.foldl (fun a x => a.set x (a.getD x [] ++ [k])) a) ≤ tot a + l.length := by
  induction l with
  | nil => intro a; simp
  | cons x l ih =>
    intro a
    have h1 := ih (a.set x (a.getD x [] ++ [k]))
    have h2 := tot_set a x k
    simp only [List.foldl_cons, List.length_cons]
    omega
def siz (st : St) : Nat := st.rules.length + tot st.asked
theorem siz_rule (st : St) (x : Nat) (l : List Nat) : siz (ruleS st x l) ≤ siz st + l.length + 1 := by
  have h := tot_ask (k := st.rules.length) l st.asked
  have key : siz (ruleS st x l) = (st.rules ++ [((l.length : Int), x)]).length + tot (askS st st.rules.length l) := by
    unfold ruleS
    simp only
    split
    · have := learnS_rules { st with asked := askS st st.rules.length l, rules := st.rules ++ [((l.length : Int), x)] } x
      unfold siz
      rw [this.1, this.2]
    · rfl
  rw [key]
  unfold siz askS
  simp only [List.length_append, List.length_singleton]
  omega
end Go.Proofs.YtoogiblkommdfaaGreat

namespace Go.Proofs.YtoogiblkommdfaaGreat
open Go.RowKit

theorem info125 : (Tryz.prog.info? 193).map (fun i => (i.zero, i.size, i.bytes)) = some (some (.agg #[.int .i64 0, .int .i64 0]), 2, 16) := by kernel_rfl
theorem avs_get {avs : List Value} {x : Nat} {v : Value} (h : avs[x]? = some v) : avs.toArray[x]? = some v := by simpa using h
theorem app_step {ρ : Operand → Value} {x y : Operand} {dst : Option Tmp} {ty : TypeId} {pos : String} {aft : Array Edge} {gd : Option (Nat × Bool)} {z : Base} {w : World} {v : Value} {l0 : List Nat} {k n : Nat} {a1 a3 : Nat × TypeId × Array Value} {A1 A2 LB LC LD L : BL} {c : Array Value} {ab : Nat}
    (hv : Row 3 1 v l0.length (inl l0) LC) (H : HA z ((n, 3, intc [k]) :: (a1 :: (ab, 84, c) :: a3 :: (A1 ++ (A2 ++ ((LB ++ (LC ++ LD)) ++ L))))) w) (_ : Blk w ab 84 c) (hx : ρ x = v) (hy : ρ y = .slice (some ⟨n, 0, none⟩) 1 1) (hl : l0.length ≤ 1000000) :
    ∃ n' W, (execOp ρ ⟨dst, .call { callee := .builtin .append, args := #[x, y], argTypes := #[84, 84] }, ty, pos, aft, gd⟩).run Tryz.prog w = .ok (.value (.slice (some ⟨(unp n').1, 0, none⟩) (l0.length + 1) (unp n').2)) W ∧ HA z [a1] W ∧ Blk W ab 84 c ∧
      ∃ C', Row 3 1 (.slice (some ⟨(unp n').1, 0, none⟩) (l0.length + 1) (unp n').2) (l0 ++ [k]).length (inl (l0 ++ [k])) C' ∧ HA z (a1 :: (ab, 84, c) :: a3 :: (A1 ++ (A2 ++ ((LB ++ (C' ++ LD)) ++ L)))) W := by
  have H1 : HA z (LC ++ ((n, 3, intc [k]) :: (a1 :: (ab, 84, c) :: a3 :: (A1 ++ (A2 ++ (LB ++ (LD ++ L))))))) w := H.perm (by
    have := perm_mv ((n, 3, intc [k]) :: a1 :: (ab, 84, c) :: a3 :: (A1 ++ (A2 ++ LB))) LC (LD ++ L)
    simpa [List.append_assoc] using this)
  obtain ⟨i, hi, hh⟩ := Option.map_eq_some_iff.1 info3
  simp only [Prod.mk.injEq] at hh
  have hp := H.get 0 rfl
  obtain ⟨v', W, C', hrun, hR', H'⟩ := hv.append H1 (by decide) 84 ty i (.int .i64 0) 8 Tryz.underlying84 hi hh.1 hh.2.1 hh.2.2 rfl (by decide) ⟨n, 0, none⟩ 1 1 [iN .i64 k] rfl (fun j u hu => by
    have hadd : (⟨n, 0, none⟩ : Addr).add j = ⟨n, j, none⟩ := by unfold Addr.add; split <;> simp_all
    rw [hadd, hp.cell j]
    simpa [intc] using hu) (fun u hu => by rw [List.mem_singleton] at hu; rw [hu]; rfl) (by unfold maxLen; omega) (by omega) (by decide)
  obtain ⟨g, cap, hg⟩ : ∃ g cap, v' = .slice (some ⟨g, 0, none⟩) (l0.length + 1) cap := by
    rcases hR'.2 with ⟨_, h2, _⟩ | ⟨g, cap, cur, h1, _⟩
    · omega
    · exact ⟨g, cap, h1⟩
  obtain ⟨n', hn'⟩ := unp_all (g + cap) g cap rfl
  have hsv : (Value.slice (some ⟨(unp n').1, 0, none⟩) (l0.length + 1) (unp n').2) = v' := by rw [hn', hg]
  have H2 : HA z (a1 :: (ab, 84, c) :: a3 :: (A1 ++ (A2 ++ ((LB ++ (C' ++ LD)) ++ L)))) W := (H'.sub (List.Sublist.append (List.Sublist.refl C') (List.sublist_cons_self _ _))).perm (by
    have := perm_mv C' (a1 :: (ab, 84, c) :: a3 :: (A1 ++ (A2 ++ LB))) (LD ++ L)
    simpa [List.append_assoc] using this)
  refine ⟨n', W, ?_, H2.sub (List.Sublist.cons_cons _ (List.nil_sublist _)), H2.get 1 rfl, C', ?_, H2⟩
  · rw [hsv]
    unfold execOp
    simp only [resolve, invoke, builtin, Sem.run_bind, Sem.run_pure, Result.andThen_ok, List.map_toArray, List.map_cons, List.map_nil, hx, hy, hrun]
  · rw [hsv]
    simpa [inl] using hR'
theorem rule1_ok {m : Nat} {st : St} (h : Wok m st) {x : Nat} (hx : x < m) (l : List Nat) : Wok m ({ st with asked := askS st st.rules.length l, rules := st.rules ++ [((l.length : Int), x)] } : St) := by
  refine ⟨(askS_len _ _ _).trans h.al, h.kl, fun r hr => ?_, ?_, h.nx, h.nl⟩
  · rcases List.mem_append.1 hr with hr | hr
    · exact h.th r hr
    · rw [List.mem_singleton] at hr; rw [hr]; exact hx
  · exact ask_mem l st.asked _ (fun r hr y hy => by have := h.rl r hr y hy; simp; omega) (by simp)
set_option maxRecDepth 100000 in
set_option maxHeartbeats 2000000 in
theorem rule_a {z : Base} {b : Wb} {m : Nat} {st : St} {L : BL} {w : World} (H : WH z b m st L w) (hw : Wok m st) {x : Nat} (hx : x < m) (hnl : st.next.length ≤ 1000000) (hrl : st.rules.length ≤ 1000000) (l : List Nat) (o : Option Addr) (cl : Nat) (hl : Rd3 z L o l) (hlm : ∀ i, i < l.length → l.getD i 0 < m) (hsm : ∀ i y, ((askK st st.rules.length l i).getD y []).length ≤ 1000000) (hll : l.length ≤ 1000000) (h0 : l.length = 0) :
    Calls Tryz.prog 119 #[pt b.p, iN .i64 x, .slice o l.length cl] w fun e w' => e = .returned (.tuple #[]) ∧ WH z b m (ruleS st x l) L w' := by
  obtain ⟨rv, nv, avs, Lr, Ln, La, hR, hN, hA, H0⟩ := H
  obtain ⟨pr, cr, rfl⟩ := hR.form
  obtain ⟨pn, cn, rfl⟩ := hN.form
  have hkl := hw.kl
  have hal := hw.al
  have hok1 : Wok m ({ st with asked := askS st st.rules.length l, rules := st.rules ++ [((l.length : Int), x)] } : St) := rule1_ok hw hx l
  go_enter Tryz.func119, Tryz.ntmps119
  refine wp_seq (wp_seq (wl_region ?_))
  refine zv (.slice o l.length cl) ?_
  refine zv (iN .i64 l.length) ?_
  refine zv (iN .i64 0) ?_
  refine wl_nil (then_at rfl (wp_block ?_))
  refine wp_count (fun i A w' => ∃ u1 : Nat → Value, A = ⟨(pt b.p :: iN .i64 x :: .slice o l.length cl :: un :: un :: un :: un :: u1 7 :: .slice o l.length cl :: iN .i64 l.length :: iN .i64 i :: u1 11 :: u1 12 :: u1 13 :: u1 14 :: u1 15 :: u1 16 :: u1 17 :: u1 18 :: u1 19 :: u1 20 :: u1 21 :: u1 22 :: u1 23 :: u1 24 :: u1 25 :: u1 26 :: u1 27 :: u1 28 :: u1 29 :: u1 30 :: u1 31 :: u1 32 :: u1 33 :: u1 34 :: List.replicate 19 un).toArray, []⟩ ∧ ∃ avs La, NRows avs (askK st st.rules.length l i) La ∧ HA z ((b.p, 148, wcell b m (.slice pr st.rules.length cr) (.slice pn st.next.length cn)) :: (b.ab, 84, avs.toArray) :: (b.kb, 4, boc st.known) :: (Lr ++ (Ln ++ (La ++ L)))) w') l.length ?_ ?_ ?_
  · exact ⟨fun ii => (([(7, undef), (11, undef), (12, undef), (13, undef), (14, undef), (15, undef), (16, undef), (17, undef), (18, undef), (19, undef), (20, undef), (21, undef), (22, undef), (23, undef), (24, undef), (25, undef), (26, undef), (27, undef), (28, undef), (29, undef), (30, undef), (31, undef), (32, undef), (33, undef), (34, undef)] : List (Nat × Value)).find? (·.1 == ii)).elim undef (·.2), by kernel_rfl, avs, La, hA, H0⟩
  · rintro i hk _ w2 ⟨u1, rfl, avs, La, hA, hH⟩
    obtain ⟨pq, c0, rfl, hm, hc⟩ := hl.resolve_left (by intro e; rw [e] at hk; simp at hk)
    have hxm : l.getD i 0 < m := hlm i hk
    obtain ⟨v, LB, LC, LD, hav, rfl, hv, hset⟩ := hA.at (l.getD i 0) (by rw [askK_len, hal]; exact hxm)
    obtain ⟨pv, cv, rfl⟩ := hv.form
    have havs : avs.length = m := by rw [hA.len, askK_len, hal]
    refine wp_seq (wl_region ?_)
    refine zu (.bool true) (run_lss (k := .i64) (a := i) (b := l.length) ky ky true (decide_eq_true (by omega))) ?_
    refine wl_nil (then_at rfl (wp_seq ?_))
    refine wp_cond_true ky ?_
    refine wp_skip (then_at rfl (wp_seq (wp_block (wp_seq (wl_region ?_)))))
    refine zu (.pointer (some ⟨pq, i, none⟩)) (run_addr_slice (q := pq) (n := l.length) (m := cl) (a := i) Tryz.underlying84 (fun w => Tryz.sizeOf3 w) ky ky (by omega)) ?_
    refine zu (iN .i64 (l.getD i 0)) (run_load1 (fun w => Tryz.isAgg3 w) ky (((Rd3.cell hm hH (by intro y hy; simp [hy])).cell i).trans (hc i hk))) ?_
    refine zv (iN .i64 (l.getD i 0)) ?_
    refine wl_nil (then_at rfl ?_)
    refine wp_region_ghost (fun g : Nat → Nat => (⟨(pt b.p :: iN .i64 x :: .slice (some ⟨pq, 0, none⟩) l.length cl :: un :: un :: un :: un :: iN .i64 (l.getD i 0) :: .slice (some ⟨pq, 0, none⟩) l.length cl :: iN .i64 l.length :: iN .i64 i :: .bool true :: .pointer (some ⟨pq, i, none⟩) :: iN .i64 (l.getD i 0) :: pt b.p :: pt b.p :: .pointer (some ⟨b.p, 1, none⟩) :: .slice (some ⟨b.ab, 0, none⟩) m m :: iN .i64 (l.getD i 0) :: pt b.p :: pt b.p :: .pointer (some ⟨b.p, 1, none⟩) :: .slice (some ⟨b.ab, 0, none⟩) m m :: iN .i64 (l.getD i 0) :: .pointer (some ⟨b.ab, l.getD i 0, none⟩) :: .slice pv ((askK st st.rules.length l i).getD (l.getD i 0) []).length cv :: pt b.p :: pt b.p :: pt b.p :: .slice pr st.rules.length cr :: iN .i64 st.rules.length :: .slice (some ⟨g 17, 0, none⟩) 1 1 :: .slice (some ⟨(unp (g 18)).1, 0, none⟩) (((askK st st.rules.length l i).getD (l.getD i 0) []).length + 1) (unp (g 18)).2 :: .pointer (some ⟨b.ab, l.getD i 0, none⟩) :: u1 34 :: List.replicate 19 un).toArray, []⟩ : Act)) (G3 (HA z [(b.p, 148, wcell b m (.slice pr st.rules.length cr) (.slice pn st.next.length cn))]) (fun w' => Blk w' b.ab 84 avs.toArray) (HA z ((b.p, 148, wcell b m (.slice pr st.rules.length cr) (.slice pn st.next.length cn)) :: (b.ab, 84, avs.toArray) :: (b.kb, 4, boc st.known) :: (Lr ++ (Ln ++ ((LB ++ (LC ++ LD)) ++ L))))) (fun n => HA z ((n, 3, intc [st.rules.length]) :: ((b.p, 148, wcell b m (.slice pr st.rules.length cr) (.slice pn st.next.length cn)) :: (b.ab, 84, avs.toArray) :: (b.kb, 4, boc st.known) :: (Lr ++ (Ln ++ ((LB ++ (LC ++ LD)) ++ L)))))) (fun _ n w' => ∃ C', Row 3 1 (.slice (some ⟨(unp n).1, 0, none⟩) (((askK st st.rules.length l i).getD (l.getD i 0) []).length + 1) (unp n).2) (((askK st st.rules.length l i).getD (l.getD i 0) []) ++ [st.rules.length]).length (inl (((askK st st.rules.length l i).getD (l.getD i 0) []) ++ [st.rules.length])) C' ∧ HA z ((b.p, 148, wcell b m (.slice pr st.rules.length cr) (.slice pn st.next.length cn)) :: (b.ab, 84, avs.toArray) :: (b.kb, 4, boc st.known) :: (Lr ++ (Ln ++ ((LB ++ (C' ++ LD)) ++ L)))) w') (fun _ n w' => ∃ C', Row 3 1 (.slice (some ⟨(unp n).1, 0, none⟩) (((askK st st.rules.length l i).getD (l.getD i 0) []).length + 1) (unp n).2) (((askK st st.rules.length l i).getD (l.getD i 0) []) ++ [st.rules.length]).length (inl (((askK st st.rules.length l i).getD (l.getD i 0) []) ++ [st.rules.length])) C' ∧ HA z ((b.p, 148, wcell b m (.slice pr st.rules.length cr) (.slice pn st.next.length cn)) :: (b.ab, 84, (avs.set (l.getD i 0) (.slice (some ⟨(unp n).1, 0, none⟩) (((askK st st.rules.length l i).getD (l.getD i 0) []).length + 1) (unp n).2)).toArray) :: (b.kb, 4, boc st.known) :: (Lr ++ (Ln ++ ((LB ++ (C' ++ LD)) ++ L)))) w') (fun i => ([[], [], [], [], [], [], [], [], [], [], [], [], [], [], [], [], [], [], [17], [], [17, 18, 11]] : List (List Nat)).getD i []) 17 18 20) [.pointer (some ⟨b.p, 0, none⟩), .pointer (some ⟨b.p, 0, none⟩), .pointer (some ⟨b.p, 1, none⟩), .slice (some ⟨b.ab, 0, none⟩) m m, iN .i64 (l.getD i 0), .pointer (some ⟨b.p, 0, none⟩), .pointer (some ⟨b.p, 0, none⟩), .pointer (some ⟨b.p, 1, none⟩), .slice (some ⟨b.ab, 0, none⟩) m m, iN .i64 (l.getD i 0), .pointer (some ⟨b.ab, l.getD i 0, none⟩), .slice pv ((askK st st.rules.length l i).getD (l.getD i 0) []).length cv, .pointer (some ⟨b.p, 0, none⟩), .pointer (some ⟨b.p, 0, none⟩), .pointer (some ⟨b.p, 0, none⟩), .slice pr st.rules.length cr, iN .i64 st.rules.length, .slice (some ⟨0, 0, none⟩) 1 1, .slice (some ⟨(unp 0).1, 0, none⟩) (((askK st st.rules.length l i).getD (l.getD i 0) []).length + 1) (unp 0).2, .pointer (some ⟨b.ab, l.getD i 0, none⟩), undef] ky ky ky ky (fun _ _ _ _ h => h) (fun d hd => G3.start (hH.drew.sub (List.Sublist.cons_cons _ (List.nil_sublist _))) (hH.drew.get 1 rfl) hH.drew (hd 17 (by decide)) (hd 18 (by decide)) (hd 20 (by decide)) (Cl.start (n := 21) hd (by decide))) ?_ ?_
    · refine AllGhost.cons (g3_read (v := fun g => .pointer (some ⟨b.p, 0, none⟩)) (by decide) (by decide) (by decide) ky (fun _ => by kernel_rfl) (fun _ => by kernel_rfl) (fun g _ _ => ky)) ?_
      refine AllGhost.cons (g3_read (v := fun g => .pointer (some ⟨b.p, 0, none⟩)) (by decide) (by decide) (by decide) ky (fun _ => by kernel_rfl) (fun _ => by kernel_rfl) (fun g _ _ => ky)) ?_
      refine AllGhost.cons (g3_read (v := fun g => .pointer (some ⟨b.p, 1, none⟩)) (by decide) (by decide) (by decide) ky (fun _ => by kernel_rfl) (fun _ => by kernel_rfl) (fun g _ _ => ky)) ?_
      refine AllGhost.cons (g3_read (v := fun g => .slice (some ⟨b.ab, 0, none⟩) m m) (by decide) (by decide) (by decide) ky (fun _ => by kernel_rfl) (fun _ => by kernel_rfl) (fun g w' h' => run_load1 (fun w => Tryz.isAgg140 w) ky (((h'.get 0 rfl).cell 1).trans rfl))) ?_
      refine AllGhost.cons (g3_read (v := fun g => iN .i64 (l.getD i 0)) (by decide) (by decide) (by decide) ky (fun _ => by kernel_rfl) (fun _ => by kernel_rfl) (fun g _ _ => ky)) ?_
      refine AllGhost.cons (g3_read (v := fun g => .pointer (some ⟨b.p, 0, none⟩)) (by decide) (by decide) (by decide) ky (fun _ => by kernel_rfl) (fun _ => by kernel_rfl) (fun g _ _ => ky)) ?_
      refine AllGhost.cons (g3_read (v := fun g => .pointer (some ⟨b.p, 0, none⟩)) (by decide) (by decide) (by decide) ky (fun _ => by kernel_rfl) (fun _ => by kernel_rfl) (fun g _ _ => ky)) ?_
      refine AllGhost.cons (g3_read (v := fun g => .pointer (some ⟨b.p, 1, none⟩)) (by decide) (by decide) (by decide) ky (fun _ => by kernel_rfl) (fun _ => by kernel_rfl) (fun g _ _ => ky)) ?_
      refine AllGhost.cons (g3_read (v := fun g => .slice (some ⟨b.ab, 0, none⟩) m m) (by decide) (by decide) (by decide) ky (fun _ => by kernel_rfl) (fun _ => by kernel_rfl) (fun g w' h' => run_load1 (fun w => Tryz.isAgg140 w) ky (((h'.get 0 rfl).cell 1).trans rfl))) ?_
      refine AllGhost.cons (g3_read (v := fun g => iN .i64 (l.getD i 0)) (by decide) (by decide) (by decide) ky (fun _ => by kernel_rfl) (fun _ => by kernel_rfl) (fun g _ _ => ky)) ?_
      refine AllGhost.cons (g3_read (v := fun g => .pointer (some ⟨b.ab, l.getD i 0, none⟩)) (by decide) (by decide) (by decide) ky (fun _ => by kernel_rfl) (fun _ => by kernel_rfl) (fun g _ _ => (run_addr_slice (q := b.ab) (n := m) (m := m) (a := l.getD i 0) Tryz.underlying140 (fun w => Tryz.sizeOf84 w) ky ky (by omega)))) ?_
      refine AllGhost.cons (g3_readM (v := fun g => .slice pv ((askK st st.rules.length l i).getD (l.getD i 0) []).length cv) (by decide) (by decide) (by decide) (by decide) ky (fun _ => by kernel_rfl) (fun _ => by kernel_rfl) (fun g w' h' => run_load1 (fun w => Tryz.isAgg84 w) ky ((h'.cell (l.getD i 0)).trans (avs_get hav)))) ?_
      refine AllGhost.cons (g3_read (v := fun g => .pointer (some ⟨b.p, 0, none⟩)) (by decide) (by decide) (by decide) ky (fun _ => by kernel_rfl) (fun _ => by kernel_rfl) (fun g _ _ => ky)) ?_
      refine AllGhost.cons (g3_read (v := fun g => .pointer (some ⟨b.p, 0, none⟩)) (by decide) (by decide) (by decide) ky (fun _ => by kernel_rfl) (fun _ => by kernel_rfl) (fun g _ _ => ky)) ?_
      refine AllGhost.cons (g3_read (v := fun g => .pointer (some ⟨b.p, 0, none⟩)) (by decide) (by decide) (by decide) ky (fun _ => by kernel_rfl) (fun _ => by kernel_rfl) (fun g _ _ => ky)) ?_
      refine AllGhost.cons (g3_read (v := fun g => .slice pr st.rules.length cr) (by decide) (by decide) (by decide) ky (fun _ => by kernel_rfl) (fun _ => by kernel_rfl) (fun g w' h' => run_load1 (fun w => Tryz.isAgg146 w) ky (((h'.get 0 rfl).cell 0).trans rfl))) ?_
      refine AllGhost.cons (g3_read (v := fun g => iN .i64 st.rules.length) (by decide) (by decide) (by decide) ky (fun _ => by kernel_rfl) (fun _ => by kernel_rfl) (fun g _ _ => ky)) ?_
      refine AllGhost.cons (g3_act0 (v := fun n => .slice (some ⟨n, 0, none⟩) 1 1) (by decide) (by decide) (by decide) (by decide) ky (fun _ => by kernel_rfl) (fun _ _ => by kernel_rfl) (fun g w' hr hr' h' => ⟨w'.heap.size, _, (by kernel_rfl : (execOp _ _).run Tryz.prog w' = .ok (.value (.slice (some ⟨w'.heap.size, 0, none⟩) 1 1)) (w'.alloc (.cells (intc [st.rules.length]) 3))), (h'.make 3 (intc [st.rules.length])).sub (List.Sublist.cons _ (List.Sublist.cons_cons _ (List.nil_sublist _))), hr'.alloc _, h'.make 3 (intc [st.rules.length])⟩)) ?_
      refine AllGhost.cons (g3_act1 (v := fun n => .slice (some ⟨(unp n).1, 0, none⟩) (((askK st st.rules.length l i).getD (l.getD i 0) []).length + 1) (unp n).2) (by decide) (by decide) (by decide) (by decide) ky (fun _ => by kernel_rfl) (fun _ _ => by kernel_rfl) (fun g w' hr hr' h' => app_step hv h' hr' ky ky (hsm i _))) ?_
      refine AllGhost.cons (g3_read (v := fun g => .pointer (some ⟨b.ab, l.getD i 0, none⟩)) (by decide) (by decide) (by decide) ky (fun _ => by kernel_rfl) (fun _ => by kernel_rfl) (fun g _ _ => (run_addr_slice (q := b.ab) (n := m) (m := m) (a := l.getD i 0) Tryz.underlying140 (fun w => Tryz.sizeOf84 w) ky ky (by omega)))) ?_
      refine AllGhost.cons (g3_act2 (by decide) ky (fun _ => by kernel_rfl) (fun _ => by kernel_rfl) (fun g w' hr hr' h' => by obtain ⟨C', h1, h2⟩ := h'; exact ⟨_, run_storev (fun w => Tryz.sizeOf84 w) ky ky ky (by rw [(h2.get 1 rfl).cell, avs_get hav]; rfl) ((h2.get 1 rfl).free _ (by simp [havs]; exact hxm)), (h2.put 1 rfl (l.getD i 0) _).sub (List.Sublist.cons_cons _ (List.nil_sublist _)), C', h1, by have := h2.put 1 rfl (l.getD i 0) (.slice (some ⟨(unp (g 18)).1, 0, none⟩) (((askK st st.rules.length l i).getD (l.getD i 0) []).length + 1) (unp (g 18)).2); rw [List.setIfInBounds_toArray] at this; exact this⟩)) ?_
      exact AllGhost.nil
    intro g w3 gg4
    have h5 := gg4.held
    rw [if_pos rfl] at h5
    clear gg4
    obtain ⟨C1, hC1, hH1⟩ := h5
    refine block_normal (then_at rfl (wl_region ?_))
    refine zu (iN .i64 (i + 1)) (run_add (k := .i64) (a := i) (b := 1) ky ky (by simp only [top]; omega)) ?_
    refine zv (iN .i64 (i + 1)) ?_
    refine wl_nil ?_
    exact then_I ⟨fun ii => (([(7, iN .i64 (l.getD i 0)), (11, .bool true), (12, .pointer (some ⟨pq, i, none⟩)), (13, iN .i64 (l.getD i 0)), (14, .pointer (some ⟨b.p, 0, none⟩)), (15, .pointer (some ⟨b.p, 0, none⟩)), (16, .pointer (some ⟨b.p, 1, none⟩)), (17, .slice (some ⟨b.ab, 0, none⟩) m m), (18, iN .i64 (l.getD i 0)), (19, .pointer (some ⟨b.p, 0, none⟩)), (20, .pointer (some ⟨b.p, 0, none⟩)), (21, .pointer (some ⟨b.p, 1, none⟩)), (22, .slice (some ⟨b.ab, 0, none⟩) m m), (23, iN .i64 (l.getD i 0)), (24, .pointer (some ⟨b.ab, l.getD i 0, none⟩)), (25, .slice pv ((askK st st.rules.length l i).getD (l.getD i 0) []).length cv), (26, .pointer (some ⟨b.p, 0, none⟩)), (27, .pointer (some ⟨b.p, 0, none⟩)), (28, .pointer (some ⟨b.p, 0, none⟩)), (29, .slice pr st.rules.length cr), (30, iN .i64 st.rules.length), (31, .slice (some ⟨g 17, 0, none⟩) 1 1), (32, .slice (some ⟨(unp (g 18)).1, 0, none⟩) (((askK st st.rules.length l i).getD (l.getD i 0) []).length + 1) (unp (g 18)).2), (33, .pointer (some ⟨b.ab, l.getD i 0, none⟩)), (34, iN .i64 (i + 1))] : List (Nat × Value)).find? (·.1 == ii)).elim undef (·.2), by kernel_rfl, _, _, (by rw [askK_step st st.rules.length l i hk]; exact hset _ _ C1 hC1), hH1⟩
  · rintro _ w6 ⟨u1, rfl, avs, La, hA, hH⟩
    refine wp_seq (wl_region ?_)
    refine zu (.bool false) (run_lss (k := .i64) (a := l.length) (b := l.length) ky ky false (decide_eq_false (by omega))) ?_
    refine wl_nil (then_at rfl (wp_seq ?_))
    refine wp_cond_false ky ?_
    refine wp_exit ?_
    repeat first | refine then_exit ?_ | refine block_exit ?_ | refine block_exit_ne (by decide) ?_
    refine then_at rfl (wp_seq (wl_region ?_))
    refine zv (.pointer (some ⟨b.p, 0, none⟩)) ?_
    refine zv (.pointer (some ⟨b.p, 0, none⟩)) ?_
    refine zv (.pointer (some ⟨b.p, 0, none⟩)) ?_
    refine zv (.pointer (some ⟨b.p, 0, none⟩)) ?_
    refine zu (.slice pr st.rules.length cr) (run_load1 (fun w => Tryz.isAgg146 w) ky (((hH.get 0 rfl).cell 0).trans rfl)) ?_
    refine zv (.slice o l.length cl) ?_
    refine zv (iN .i64 l.length) ?_
    refine zv (iN .i64 x) ?_
    refine zv (.agg #[iN .i64 l.length, iN .i64 x]) ?_
    refine wl_mks (n := 1) (m := 1) (c := #[iN .i64 l.length, iN .i64 x]) hH 193 ky ky ?_
    intro q7 w8 (h9 : HA z ((q7, 193, #[iN .i64 l.length, iN .i64 x]) :: (b.p, 148, wcell b m (.slice pr st.rules.length cr) (.slice pn st.next.length cn)) :: (b.ab, 84, avs.toArray) :: (b.kb, 4, boc st.known) :: (Lr ++ (Ln ++ (La ++ L)))) w8)
    have h10 : HA z ((q7, 193, #[iN .i64 l.length, iN .i64 x]) :: (Lr ++ (([(b.p, 148, wcell b m (.slice pr st.rules.length cr) (.slice pn st.next.length cn)), (b.ab, 84, avs.toArray), (b.kb, 4, boc st.known)]) ++ (Ln ++ (La ++ L))))) w8 := h9.perm (List.Perm.cons _ (perm_mv ([(b.p, 148, wcell b m (.slice pr st.rules.length cr) (.slice pn st.next.length cn)), (b.ab, 84, avs.toArray), (b.kb, 4, boc st.known)]) Lr (Ln ++ (La ++ L))))
    refine wl_append (m := 1) (c := 1) hR h10 (by decide) (.agg #[.int .i64 0, .int .i64 0]) 16 Tryz.underlying146 info125 rfl (by decide) ky ky ky rfl ky (by unfold maxLen; omega) (by omega) (by decide) ?_
    intro v1 w11 Lr1 hR1 h12
    obtain ⟨pr1, cr1, rfl⟩ := hR1.form
    have h13 : HA z ((b.p, 148, wcell b m (.slice pr st.rules.length cr) (.slice pn st.next.length cn)) :: (b.ab, 84, avs.toArray) :: (b.kb, 4, boc st.known) :: (Lr1 ++ (Ln ++ (La ++ L)))) w11 := HA.mv Lr1 ([(b.p, 148, wcell b m (.slice pr st.rules.length cr) (.slice pn st.next.length cn)), (b.ab, 84, avs.toArray), (b.kb, 4, boc st.known)]) (Ln ++ (La ++ L)) h12
    refine zv (.pointer (some ⟨b.p, 0, none⟩)) ?_
    refine zv (.pointer (some ⟨b.p, 0, none⟩)) ?_
    refine wl_putv (v := .slice pr1 (st.rules.length + 1) cr1) h13 0 rfl 0 (by show 0 < 4; decide) ky (fun w => Tryz.sizeOf146 w) ky ky ky ?_
    intro w14 (h15 : HA z ((b.p, 148, wcell b m (.slice pr1 (st.rules.length + 1) cr1) (.slice pn st.next.length cn)) :: (b.ab, 84, avs.toArray) :: (b.kb, 4, boc st.known) :: (Lr1 ++ (Ln ++ (La ++ L)))) w14)
    refine wl_nil (then_at rfl (wp_seq ?_))
    have hW1 : WH z b m ({ st with asked := askS st st.rules.length l, rules := st.rules ++ [((l.length : Int), x)] } : St) L w14 := ⟨_, _, avs, Lr1, Ln, La, by simpa [rcl, iN] using hR1, hN, by have := hA; unfold askK at this; rw [List.take_length] at this; exact this, h15⟩
    refine wl_region ?_
    refine zv (.slice o l.length cl) ?_
    refine zv (iN .i64 l.length) ?_
    refine zu (.bool true) (run_eqi (k := .i64) (a := l.length) (b := 0) ky ky true (decide_eq_true (by omega))) ?_
    refine wl_nil (then_at rfl ?_)
    refine wp_cond_true ky ?_
    refine wl_region ?_
    refine zv (.pointer (some ⟨b.p, 0, none⟩)) ?_
    refine zv (iN .i64 x) ?_
    refine wl_callx ky enter82 #[.pointer (some ⟨b.p, 0, none⟩), iN .i64 x] ky (learn_any hW1 hok1 hx hnl) ?_
    rintro _ w16 ⟨rfl, hW2⟩
    refine ⟨_, rfl, ?_⟩
    refine wl_nil ?_
    exact bodyPost_end (v := .tuple #[]) ky rfl ⟨rfl, by rw [ruleS]; simp only [h0, if_true]; simpa [h0] using hW2⟩
set_option maxRecDepth 100000 in
set_option maxHeartbeats 2000000 in
theorem rule_b {z : Base} {b : Wb} {m : Nat} {st : St} {L : BL} {w : World} (H : WH z b m st L w) (hw : Wok m st) {x : Nat} (hx : x < m) (hnl : st.next.length ≤ 1000000) (hrl : st.rules.length ≤ 1000000) (l : List Nat) (o : Option Addr) (cl : Nat) (hl : Rd3 z L o l) (hlm : ∀ i, i < l.length → l.getD i 0 < m) (hsm : ∀ i y, ((askK st st.rules.length l i).getD y []).length ≤ 1000000) (hll : l.length ≤ 1000000) (h0 : ¬ l.length = 0) :
    Calls Tryz.prog 119 #[pt b.p, iN .i64 x, .slice o l.length cl] w fun e w' => e = .returned (.tuple #[]) ∧ WH z b m (ruleS st x l) L w' := by
  obtain ⟨rv, nv, avs, Lr, Ln, La, hR, hN, hA, H0⟩ := H
  obtain ⟨pr, cr, rfl⟩ := hR.form
  obtain ⟨pn, cn, rfl⟩ := hN.form
  have hkl := hw.kl
  have hal := hw.al
  have hok1 : Wok m ({ st with asked := askS st st.rules.length l, rules := st.rules ++ [((l.length : Int), x)] } : St) := rule1_ok hw hx l
  go_enter Tryz.func119, Tryz.ntmps119
  refine wp_seq (wp_seq (wl_region ?_))
  refine zv (.slice o l.length cl) ?_
  refine zv (iN .i64 l.length) ?_
  refine zv (iN .i64 0) ?_
  refine wl_nil (then_at rfl (wp_block ?_))
  refine wp_count (fun i A w' => ∃ u1 : Nat → Value, A = ⟨(pt b.p :: iN .i64 x :: .slice o l.length cl :: un :: un :: un :: un :: u1 7 :: .slice o l.length cl :: iN .i64 l.length :: iN .i64 i :: u1 11 :: u1 12 :: u1 13 :: u1 14 :: u1 15 :: u1 16 :: u1 17 :: u1 18 :: u1 19 :: u1 20 :: u1 21 :: u1 22 :: u1 23 :: u1 24 :: u1 25 :: u1 26 :: u1 27 :: u1 28 :: u1 29 :: u1 30 :: u1 31 :: u1 32 :: u1 33 :: u1 34 :: List.replicate 19 un).toArray, []⟩ ∧ ∃ avs La, NRows avs (askK st st.rules.length l i) La ∧ HA z ((b.p, 148, wcell b m (.slice pr st.rules.length cr) (.slice pn st.next.length cn)) :: (b.ab, 84, avs.toArray) :: (b.kb, 4, boc st.known) :: (Lr ++ (Ln ++ (La ++ L)))) w') l.length ?_ ?_ ?_
  · exact ⟨fun ii => (([(7, undef), (11, undef), (12, undef), (13, undef), (14, undef), (15, undef), (16, undef), (17, undef), (18, undef), (19, undef), (20, undef), (21, undef), (22, undef), (23, undef), (24, undef), (25, undef), (26, undef), (27, undef), (28, undef), (29, undef), (30, undef), (31, undef), (32, undef), (33, undef), (34, undef)] : List (Nat × Value)).find? (·.1 == ii)).elim undef (·.2), by kernel_rfl, avs, La, hA, H0⟩
  · rintro i hk _ w2 ⟨u1, rfl, avs, La, hA, hH⟩
    obtain ⟨pq, c0, rfl, hm, hc⟩ := hl.resolve_left (by intro e; rw [e] at hk; simp at hk)
    have hxm : l.getD i 0 < m := hlm i hk
    obtain ⟨v, LB, LC, LD, hav, rfl, hv, hset⟩ := hA.at (l.getD i 0) (by rw [askK_len, hal]; exact hxm)
    obtain ⟨pv, cv, rfl⟩ := hv.form
    have havs : avs.length = m := by rw [hA.len, askK_len, hal]
    refine wp_seq (wl_region ?_)
    refine zu (.bool true) (run_lss (k := .i64) (a := i) (b := l.length) ky ky true (decide_eq_true (by omega))) ?_
    refine wl_nil (then_at rfl (wp_seq ?_))
    refine wp_cond_true ky ?_
    refine wp_skip (then_at rfl (wp_seq (wp_block (wp_seq (wl_region ?_)))))
    refine zu (.pointer (some ⟨pq, i, none⟩)) (run_addr_slice (q := pq) (n := l.length) (m := cl) (a := i) Tryz.underlying84 (fun w => Tryz.sizeOf3 w) ky ky (by omega)) ?_
    refine zu (iN .i64 (l.getD i 0)) (run_load1 (fun w => Tryz.isAgg3 w) ky (((Rd3.cell hm hH (by intro y hy; simp [hy])).cell i).trans (hc i hk))) ?_
    refine zv (iN .i64 (l.getD i 0)) ?_
    refine wl_nil (then_at rfl ?_)
    refine wp_region_ghost (fun g : Nat → Nat => (⟨(pt b.p :: iN .i64 x :: .slice (some ⟨pq, 0, none⟩) l.length cl :: un :: un :: un :: un :: iN .i64 (l.getD i 0) :: .slice (some ⟨pq, 0, none⟩) l.length cl :: iN .i64 l.length :: iN .i64 i :: .bool true :: .pointer (some ⟨pq, i, none⟩) :: iN .i64 (l.getD i 0) :: pt b.p :: pt b.p :: .pointer (some ⟨b.p, 1, none⟩) :: .slice (some ⟨b.ab, 0, none⟩) m m :: iN .i64 (l.getD i 0) :: pt b.p :: pt b.p :: .pointer (some ⟨b.p, 1, none⟩) :: .slice (some ⟨b.ab, 0, none⟩) m m :: iN .i64 (l.getD i 0) :: .pointer (some ⟨b.ab, l.getD i 0, none⟩) :: .slice pv ((askK st st.rules.length l i).getD (l.getD i 0) []).length cv :: pt b.p :: pt b.p :: pt b.p :: .slice pr st.rules.length cr :: iN .i64 st.rules.length :: .slice (some ⟨g 17, 0, none⟩) 1 1 :: .slice (some ⟨(unp (g 18)).1, 0, none⟩) (((askK st st.rules.length l i).getD (l.getD i 0) []).length + 1) (unp (g 18)).2 :: .pointer (some ⟨b.ab, l.getD i 0, none⟩) :: u1 34 :: List.replicate 19 un).toArray, []⟩ : Act)) (G3 (HA z [(b.p, 148, wcell b m (.slice pr st.rules.length cr) (.slice pn st.next.length cn))]) (fun w' => Blk w' b.ab 84 avs.toArray) (HA z ((b.p, 148, wcell b m (.slice pr st.rules.length cr) (.slice pn st.next.length cn)) :: (b.ab, 84, avs.toArray) :: (b.kb, 4, boc st.known) :: (Lr ++ (Ln ++ ((LB ++ (LC ++ LD)) ++ L))))) (fun n => HA z ((n, 3, intc [st.rules.length]) :: ((b.p, 148, wcell b m (.slice pr st.rules.length cr) (.slice pn st.next.length cn)) :: (b.ab, 84, avs.toArray) :: (b.kb, 4, boc st.known) :: (Lr ++ (Ln ++ ((LB ++ (LC ++ LD)) ++ L)))))) (fun _ n w' => ∃ C', Row 3 1 (.slice (some ⟨(unp n).1, 0, none⟩) (((askK st st.rules.length l i).getD (l.getD i 0) []).length + 1) (unp n).2) (((askK st st.rules.length l i).getD (l.getD i 0) []) ++ [st.rules.length]).length (inl (((askK st st.rules.length l i).getD (l.getD i 0) []) ++ [st.rules.length])) C' ∧ HA z ((b.p, 148, wcell b m (.slice pr st.rules.length cr) (.slice pn st.next.length cn)) :: (b.ab, 84, avs.toArray) :: (b.kb, 4, boc st.known) :: (Lr ++ (Ln ++ ((LB ++ (C' ++ LD)) ++ L)))) w') (fun _ n w' => ∃ C', Row 3 1 (.slice (some ⟨(unp n).1, 0, none⟩) (((askK st st.rules.length l i).getD (l.getD i 0) []).length + 1) (unp n).2) (((askK st st.rules.length l i).getD (l.getD i 0) []) ++ [st.rules.length]).length (inl (((askK st st.rules.length l i).getD (l.getD i 0) []) ++ [st.rules.length])) C' ∧ HA z ((b.p, 148, wcell b m (.slice pr st.rules.length cr) (.slice pn st.next.length cn)) :: (b.ab, 84, (avs.set (l.getD i 0) (.slice (some ⟨(unp n).1, 0, none⟩) (((askK st st.rules.length l i).getD (l.getD i 0) []).length + 1) (unp n).2)).toArray) :: (b.kb, 4, boc st.known) :: (Lr ++ (Ln ++ ((LB ++ (C' ++ LD)) ++ L)))) w') (fun i => ([[], [], [], [], [], [], [], [], [], [], [], [], [], [], [], [], [], [], [17], [], [17, 18, 11]] : List (List Nat)).getD i []) 17 18 20) [.pointer (some ⟨b.p, 0, none⟩), .pointer (some ⟨b.p, 0, none⟩), .pointer (some ⟨b.p, 1, none⟩), .slice (some ⟨b.ab, 0, none⟩) m m, iN .i64 (l.getD i 0), .pointer (some ⟨b.p, 0, none⟩), .pointer (some ⟨b.p, 0, none⟩), .pointer (some ⟨b.p, 1, none⟩), .slice (some ⟨b.ab, 0, none⟩) m m, iN .i64 (l.getD i 0), .pointer (some ⟨b.ab, l.getD i 0, none⟩), .slice pv ((askK st st.rules.length l i).getD (l.getD i 0) []).length cv, .pointer (some ⟨b.p, 0, none⟩), .pointer (some ⟨b.p, 0, none⟩), .pointer (some ⟨b.p, 0, none⟩), .slice pr st.rules.length cr, iN .i64 st.rules.length, .slice (some ⟨0, 0, none⟩) 1 1, .slice (some ⟨(unp 0).1, 0, none⟩) (((askK st st.rules.length l i).getD (l.getD i 0) []).length + 1) (unp 0).2, .pointer (some ⟨b.ab, l.getD i 0, none⟩), undef] ky ky ky ky (fun _ _ _ _ h => h) (fun d hd => G3.start (hH.drew.sub (List.Sublist.cons_cons _ (List.nil_sublist _))) (hH.drew.get 1 rfl) hH.drew (hd 17 (by decide)) (hd 18 (by decide)) (hd 20 (by decide)) (Cl.start (n := 21) hd (by decide))) ?_ ?_
    · refine AllGhost.cons (g3_read (v := fun g => .pointer (some ⟨b.p, 0, none⟩)) (by decide) (by decide) (by decide) ky (fun _ => by kernel_rfl) (fun _ => by kernel_rfl) (fun g _ _ => ky)) ?_
      refine AllGhost.cons (g3_read (v := fun g => .pointer (some ⟨b.p, 0, none⟩)) (by decide) (by decide) (by decide) ky (fun _ => by kernel_rfl) (fun _ => by kernel_rfl) (fun g _ _ => ky)) ?_
      refine AllGhost.cons (g3_read (v := fun g => .pointer (some ⟨b.p, 1, none⟩)) (by decide) (by decide) (by decide) ky (fun _ => by kernel_rfl) (fun _ => by kernel_rfl) (fun g _ _ => ky)) ?_
      refine AllGhost.cons (g3_read (v := fun g => .slice (some ⟨b.ab, 0, none⟩) m m) (by decide) (by decide) (by decide) ky (fun _ => by kernel_rfl) (fun _ => by kernel_rfl) (fun g w' h' => run_load1 (fun w => Tryz.isAgg140 w) ky (((h'.get 0 rfl).cell 1).trans rfl))) ?_
      refine AllGhost.cons (g3_read (v := fun g => iN .i64 (l.getD i 0)) (by decide) (by decide) (by decide) ky (fun _ => by kernel_rfl) (fun _ => by kernel_rfl) (fun g _ _ => ky)) ?_
      refine AllGhost.cons (g3_read (v := fun g => .pointer (some ⟨b.p, 0, none⟩)) (by decide) (by decide) (by decide) ky (fun _ => by kernel_rfl) (fun _ => by kernel_rfl) (fun g _ _ => ky)) ?_
      refine AllGhost.cons (g3_read (v := fun g => .pointer (some ⟨b.p, 0, none⟩)) (by decide) (by decide) (by decide) ky (fun _ => by kernel_rfl) (fun _ => by kernel_rfl) (fun g _ _ => ky)) ?_
      refine AllGhost.cons (g3_read (v := fun g => .pointer (some ⟨b.p, 1, none⟩)) (by decide) (by decide) (by decide) ky (fun _ => by kernel_rfl) (fun _ => by kernel_rfl) (fun g _ _ => ky)) ?_
      refine AllGhost.cons (g3_read (v := fun g => .slice (some ⟨b.ab, 0, none⟩) m m) (by decide) (by decide) (by decide) ky (fun _ => by kernel_rfl) (fun _ => by kernel_rfl) (fun g w' h' => run_load1 (fun w => Tryz.isAgg140 w) ky (((h'.get 0 rfl).cell 1).trans rfl))) ?_
      refine AllGhost.cons (g3_read (v := fun g => iN .i64 (l.getD i 0)) (by decide) (by decide) (by decide) ky (fun _ => by kernel_rfl) (fun _ => by kernel_rfl) (fun g _ _ => ky)) ?_
      refine AllGhost.cons (g3_read (v := fun g => .pointer (some ⟨b.ab, l.getD i 0, none⟩)) (by decide) (by decide) (by decide) ky (fun _ => by kernel_rfl) (fun _ => by kernel_rfl) (fun g _ _ => (run_addr_slice (q := b.ab) (n := m) (m := m) (a := l.getD i 0) Tryz.underlying140 (fun w => Tryz.sizeOf84 w) ky ky (by omega)))) ?_
      refine AllGhost.cons (g3_readM (v := fun g => .slice pv ((askK st st.rules.length l i).getD (l.getD i 0) []).length cv) (by decide) (by decide) (by decide) (by decide) ky (fun _ => by kernel_rfl) (fun _ => by kernel_rfl) (fun g w' h' => run_load1 (fun w => Tryz.isAgg84 w) ky ((h'.cell (l.getD i 0)).trans (avs_get hav)))) ?_
      refine AllGhost.cons (g3_read (v := fun g => .pointer (some ⟨b.p, 0, none⟩)) (by decide) (by decide) (by decide) ky (fun _ => by kernel_rfl) (fun _ => by kernel_rfl) (fun g _ _ => ky)) ?_
      refine AllGhost.cons (g3_read (v := fun g => .pointer (some ⟨b.p, 0, none⟩)) (by decide) (by decide) (by decide) ky (fun _ => by kernel_rfl) (fun _ => by kernel_rfl) (fun g _ _ => ky)) ?_
      refine AllGhost.cons (g3_read (v := fun g => .pointer (some ⟨b.p, 0, none⟩)) (by decide) (by decide) (by decide) ky (fun _ => by kernel_rfl) (fun _ => by kernel_rfl) (fun g _ _ => ky)) ?_
      refine AllGhost.cons (g3_read (v := fun g => .slice pr st.rules.length cr) (by decide) (by decide) (by decide) ky (fun _ => by kernel_rfl) (fun _ => by kernel_rfl) (fun g w' h' => run_load1 (fun w => Tryz.isAgg146 w) ky (((h'.get 0 rfl).cell 0).trans rfl))) ?_
      refine AllGhost.cons (g3_read (v := fun g => iN .i64 st.rules.length) (by decide) (by decide) (by decide) ky (fun _ => by kernel_rfl) (fun _ => by kernel_rfl) (fun g _ _ => ky)) ?_
      refine AllGhost.cons (g3_act0 (v := fun n => .slice (some ⟨n, 0, none⟩) 1 1) (by decide) (by decide) (by decide) (by decide) ky (fun _ => by kernel_rfl) (fun _ _ => by kernel_rfl) (fun g w' hr hr' h' => ⟨w'.heap.size, _, (by kernel_rfl : (execOp _ _).run Tryz.prog w' = .ok (.value (.slice (some ⟨w'.heap.size, 0, none⟩) 1 1)) (w'.alloc (.cells (intc [st.rules.length]) 3))), (h'.make 3 (intc [st.rules.length])).sub (List.Sublist.cons _ (List.Sublist.cons_cons _ (List.nil_sublist _))), hr'.alloc _, h'.make 3 (intc [st.rules.length])⟩)) ?_
      refine AllGhost.cons (g3_act1 (v := fun n => .slice (some ⟨(unp n).1, 0, none⟩) (((askK st st.rules.length l i).getD (l.getD i 0) []).length + 1) (unp n).2) (by decide) (by decide) (by decide) (by decide) ky (fun _ => by kernel_rfl) (fun _ _ => by kernel_rfl) (fun g w' hr hr' h' => app_step hv h' hr' ky ky (hsm i _))) ?_
      refine AllGhost.cons (g3_read (v := fun g => .pointer (some ⟨b.ab, l.getD i 0, none⟩)) (by decide) (by decide) (by decide) ky (fun _ => by kernel_rfl) (fun _ => by kernel_rfl) (fun g _ _ => (run_addr_slice (q := b.ab) (n := m) (m := m) (a := l.getD i 0) Tryz.underlying140 (fun w => Tryz.sizeOf84 w) ky ky (by omega)))) ?_
      refine AllGhost.cons (g3_act2 (by decide) ky (fun _ => by kernel_rfl) (fun _ => by kernel_rfl) (fun g w' hr hr' h' => by obtain ⟨C', h1, h2⟩ := h'; exact ⟨_, run_storev (fun w => Tryz.sizeOf84 w) ky ky ky (by rw [(h2.get 1 rfl).cell, avs_get hav]; rfl) ((h2.get 1 rfl).free _ (by simp [havs]; exact hxm)), (h2.put 1 rfl (l.getD i 0) _).sub (List.Sublist.cons_cons _ (List.nil_sublist _)), C', h1, by have := h2.put 1 rfl (l.getD i 0) (.slice (some ⟨(unp (g 18)).1, 0, none⟩) (((askK st st.rules.length l i).getD (l.getD i 0) []).length + 1) (unp (g 18)).2); rw [List.setIfInBounds_toArray] at this; exact this⟩)) ?_
      exact AllGhost.nil
    intro g w3 gg4
    have h5 := gg4.held
    rw [if_pos rfl] at h5
    clear gg4
    obtain ⟨C1, hC1, hH1⟩ := h5
    refine block_normal (then_at rfl (wl_region ?_))
    refine zu (iN .i64 (i + 1)) (run_add (k := .i64) (a := i) (b := 1) ky ky (by simp only [top]; omega)) ?_
    refine zv (iN .i64 (i + 1)) ?_
    refine wl_nil ?_
    exact then_I ⟨fun ii => (([(7, iN .i64 (l.getD i 0)), (11, .bool true), (12, .pointer (some ⟨pq, i, none⟩)), (13, iN .i64 (l.getD i 0)), (14, .pointer (some ⟨b.p, 0, none⟩)), (15, .pointer (some ⟨b.p, 0, none⟩)), (16, .pointer (some ⟨b.p, 1, none⟩)), (17, .slice (some ⟨b.ab, 0, none⟩) m m), (18, iN .i64 (l.getD i 0)), (19, .pointer (some ⟨b.p, 0, none⟩)), (20, .pointer (some ⟨b.p, 0, none⟩)), (21, .pointer (some ⟨b.p, 1, none⟩)), (22, .slice (some ⟨b.ab, 0, none⟩) m m), (23, iN .i64 (l.getD i 0)), (24, .pointer (some ⟨b.ab, l.getD i 0, none⟩)), (25, .slice pv ((askK st st.rules.length l i).getD (l.getD i 0) []).length cv), (26, .pointer (some ⟨b.p, 0, none⟩)), (27, .pointer (some ⟨b.p, 0, none⟩)), (28, .pointer (some ⟨b.p, 0, none⟩)), (29, .slice pr st.rules.length cr), (30, iN .i64 st.rules.length), (31, .slice (some ⟨g 17, 0, none⟩) 1 1), (32, .slice (some ⟨(unp (g 18)).1, 0, none⟩) (((askK st st.rules.length l i).getD (l.getD i 0) []).length + 1) (unp (g 18)).2), (33, .pointer (some ⟨b.ab, l.getD i 0, none⟩)), (34, iN .i64 (i + 1))] : List (Nat × Value)).find? (·.1 == ii)).elim undef (·.2), by kernel_rfl, _, _, (by rw [askK_step st st.rules.length l i hk]; exact hset _ _ C1 hC1), hH1⟩
  · rintro _ w6 ⟨u1, rfl, avs, La, hA, hH⟩
    refine wp_seq (wl_region ?_)
    refine zu (.bool false) (run_lss (k := .i64) (a := l.length) (b := l.length) ky ky false (decide_eq_false (by omega))) ?_
    refine wl_nil (then_at rfl (wp_seq ?_))
    refine wp_cond_false ky ?_
    refine wp_exit ?_
    repeat first | refine then_exit ?_ | refine block_exit ?_ | refine block_exit_ne (by decide) ?_
    refine then_at rfl (wp_seq (wl_region ?_))
    refine zv (.pointer (some ⟨b.p, 0, none⟩)) ?_
    refine zv (.pointer (some ⟨b.p, 0, none⟩)) ?_
    refine zv (.pointer (some ⟨b.p, 0, none⟩)) ?_
    refine zv (.pointer (some ⟨b.p, 0, none⟩)) ?_
    refine zu (.slice pr st.rules.length cr) (run_load1 (fun w => Tryz.isAgg146 w) ky (((hH.get 0 rfl).cell 0).trans rfl)) ?_
    refine zv (.slice o l.length cl) ?_
    refine zv (iN .i64 l.length) ?_
    refine zv (iN .i64 x) ?_
    refine zv (.agg #[iN .i64 l.length, iN .i64 x]) ?_
    refine wl_mks (n := 1) (m := 1) (c := #[iN .i64 l.length, iN .i64 x]) hH 193 ky ky ?_
    intro q7 w8 (h9 : HA z ((q7, 193, #[iN .i64 l.length, iN .i64 x]) :: (b.p, 148, wcell b m (.slice pr st.rules.length cr) (.slice pn st.next.length cn)) :: (b.ab, 84, avs.toArray) :: (b.kb, 4, boc st.known) :: (Lr ++ (Ln ++ (La ++ L)))) w8)
    have h10 : HA z ((q7, 193, #[iN .i64 l.length, iN .i64 x]) :: (Lr ++ (([(b.p, 148, wcell b m (.slice pr st.rules.length cr) (.slice pn st.next.length cn)), (b.ab, 84, avs.toArray), (b.kb, 4, boc st.known)]) ++ (Ln ++ (La ++ L))))) w8 := h9.perm (List.Perm.cons _ (perm_mv ([(b.p, 148, wcell b m (.slice pr st.rules.length cr) (.slice pn st.next.length cn)), (b.ab, 84, avs.toArray), (b.kb, 4, boc st.known)]) Lr (Ln ++ (La ++ L))))
    refine wl_append (m := 1) (c := 1) hR h10 (by decide) (.agg #[.int .i64 0, .int .i64 0]) 16 Tryz.underlying146 info125 rfl (by decide) ky ky ky rfl ky (by unfold maxLen; omega) (by omega) (by decide) ?_
    intro v1 w11 Lr1 hR1 h12
    obtain ⟨pr1, cr1, rfl⟩ := hR1.form
    have h13 : HA z ((b.p, 148, wcell b m (.slice pr st.rules.length cr) (.slice pn st.next.length cn)) :: (b.ab, 84, avs.toArray) :: (b.kb, 4, boc st.known) :: (Lr1 ++ (Ln ++ (La ++ L)))) w11 := HA.mv Lr1 ([(b.p, 148, wcell b m (.slice pr st.rules.length cr) (.slice pn st.next.length cn)), (b.ab, 84, avs.toArray), (b.kb, 4, boc st.known)]) (Ln ++ (La ++ L)) h12
    refine zv (.pointer (some ⟨b.p, 0, none⟩)) ?_
    refine zv (.pointer (some ⟨b.p, 0, none⟩)) ?_
    refine wl_putv (v := .slice pr1 (st.rules.length + 1) cr1) h13 0 rfl 0 (by show 0 < 4; decide) ky (fun w => Tryz.sizeOf146 w) ky ky ky ?_
    intro w14 (h15 : HA z ((b.p, 148, wcell b m (.slice pr1 (st.rules.length + 1) cr1) (.slice pn st.next.length cn)) :: (b.ab, 84, avs.toArray) :: (b.kb, 4, boc st.known) :: (Lr1 ++ (Ln ++ (La ++ L)))) w14)
    refine wl_nil (then_at rfl (wp_seq ?_))
    have hW1 : WH z b m ({ st with asked := askS st st.rules.length l, rules := st.rules ++ [((l.length : Int), x)] } : St) L w14 := ⟨_, _, avs, Lr1, Ln, La, by simpa [rcl, iN] using hR1, hN, by have := hA; unfold askK at this; rw [List.take_length] at this; exact this, h15⟩
    refine wl_region ?_
    refine zv (.slice o l.length cl) ?_
    refine zv (iN .i64 l.length) ?_
    refine zu (.bool false) (run_eqi (k := .i64) (a := l.length) (b := 0) ky ky false (decide_eq_false (by omega))) ?_
    refine wl_nil (then_at rfl ?_)
    refine wp_cond_false ky ?_
    refine wp_skip ?_
    exact bodyPost_end (v := .tuple #[]) ky rfl ⟨rfl, by rw [ruleS]; simp only [h0, if_false]; exact hW1⟩
theorem rule_any {z : Base} {b : Wb} {m : Nat} {st : St} {L : BL} {w : World} (H : WH z b m st L w) (hw : Wok m st) {x : Nat} (hx : x < m) (hm : m ≤ 100000) (l : List Nat) (o : Option Addr) (cl : Nat) (hl : Rd3 z L o l) (hlm : ∀ i, i < l.length → l.getD i 0 < m) (hs : siz st + l.length ≤ 1000000) :
    Calls Tryz.prog 119 #[pt b.p, iN .i64 x, .slice o l.length cl] w fun e w' => e = .returned (.tuple #[]) ∧ WH z b m (ruleS st x l) L w' := by
  have hnl := hw.nl
  have hsm : ∀ i y, ((askK st st.rules.length l i).getD y []).length ≤ 1000000 := fun i y => by
    have h1 := tot_get (askK st st.rules.length l i) y
    have h2 := tot_ask (k := st.rules.length) (l.take i) st.asked
    have h3 : (l.take i).length ≤ l.length := by rw [List.length_take]; omega
    unfold siz at hs
    unfold askK at h1 ⊢
    omega
  have hrl : st.rules.length ≤ 1000000 := by unfold siz at hs; omega
  by_cases h0 : l.length = 0
  · exact rule_a H hw hx (by omega) hrl l o cl hl hlm hsm (by omega) h0
  · exact rule_b H hw hx (by omega) hrl l o cl hl hlm hsm (by omega) h0
end Go.Proofs.YtoogiblkommdfaaGreat

namespace Go.Proofs.YtoogiblkommdfaaGreat
open Go.RowKit

section
variable {ρ : Operand → Value} {x y : Operand} {w : World} {dst : Option Tmp} {T T2 ty : TypeId} {pos : String} {aft : Array Edge} {gd : Option (Nat × Bool)}
theorem run_cutI {q m c b : Nat} (hx : ρ x = .slice (some ⟨q, 0, none⟩) m c) (hy : ρ y = iN .i64 b) (hb : b ≤ c) : (execOp ρ ⟨dst, .slice 84 x none (some y) none, ty, pos, aft, gd⟩).run Tryz.prog w = .ok (.value (.slice (some ⟨q, 0, none⟩) b c)) w := by
  simp only [execOp, hx, Option.map, hy, iN]
  go_simp
theorem run_addr92 {q n m a : Nat} (hx : ρ x = .slice (some ⟨q, 0, none⟩) n m) (hy : ρ y = iN .i64 a) (ha : a < n) : (execOp ρ ⟨dst, .indexAddr 146 x y, ty, pos, aft, gd⟩).run Tryz.prog w = .ok (.value (.pointer (some ⟨q, 2 * a, none⟩))) w := by
  simp only [execOp, hx, hy, iN]
  go_simp
theorem run_subz {z : Int} (hx : ρ x = .int .i64 z) (hy : ρ y = iN .i64 1) : (execOp ρ ⟨dst, .binOp .sub 3 x y 3, ty, pos, aft, gd⟩).run Tryz.prog w = .ok (.value (.int .i64 (IntKind.i64.wrap (z - 1)))) w := by
  simp only [execOp, hx, hy, iN]
  simp [binOp, go_sem]
end
theorem rrow_get {cur : Array Value} {rs : List (Int × Nat)} {r : Nat} {z : Int} {x : Nat} (h : cur.toList.take (rs.length * 2) = rcl rs) (hr : rs[r]? = some (z, x)) : cur[2 * r]? = some (.int .i64 z) ∧ cur[2 * r + 1]? = some (iN .i64 x) := by
  have hlt : r < rs.length := (List.getElem?_eq_some_iff.1 hr).1
  obtain ⟨h1, h2⟩ := rcl_get rs r (z, x) hr
  have e : ∀ j, j < rs.length * 2 → cur[j]? = (rcl rs)[j]? := fun j hj => by
    rw [← h, List.getElem?_take, if_pos hj]
    simp
  exact ⟨(e _ (by omega)).trans h1, (e _ (by omega)).trans h2⟩
theorem rrow_set {cur : Array Value} {rs : List (Int × Nat)} {r : Nat} {z : Int} {x : Nat} (h : cur.toList.take (rs.length * 2) = rcl rs) (hr : rs[r]? = some (z, x)) (z' : Int) : (cur.setIfInBounds (2 * r) (.int .i64 z')).toList.take ((rs.set r (z', x)).length * 2) = rcl (rs.set r (z', x)) := by
  rw [List.length_set, ← rcl_set rs r z x hr z', ← h, Array.toList_setIfInBounds, List.take_set]
theorem nrow_pop {cur : Array Value} {ns : List Nat} (h : cur.toList.take (ns.length * 1) = inl ns) : cur.toList.take ((ns.length - 1) * 1) = inl (ns.take (ns.length - 1)) := by
  rw [Nat.mul_one] at h ⊢
  have : cur.toList.take (ns.length - 1) = (cur.toList.take ns.length).take (ns.length - 1) := by rw [List.take_take, Nat.min_eq_left (by omega)]
  rw [this, h, inl, inl, List.map_take]
theorem nrow_get {cur : Array Value} {ns : List Nat} (h : cur.toList.take (ns.length * 1) = inl ns) {j : Nat} (hj : j < ns.length) : cur[j]? = some (iN .i64 (ns.getD j 0)) := by
  have h1 : (cur.toList.take (ns.length * 1))[j]? = (inl ns)[j]? := by rw [h]
  rw [Nat.mul_one, List.getElem?_take, if_pos hj, inl, List.getElem?_map, List.getElem?_eq_getElem hj] at h1
  rw [List.getD_eq_getElem?_getD, List.getElem?_eq_getElem hj]
  simpa using h1
theorem Row.blk {e : TypeId} {sz n : Nat} {v : Value} {xs : List Value} {Lr : BL} (h : Row e sz v n xs Lr) (hn : n ≠ 0) : ∃ g cap cur, v = .slice (some ⟨g, 0, none⟩) n cap ∧ Lr = [(g, e, cur)] ∧ n ≤ cap ∧ cap ≤ maxLen ∧ cur.size = cap * sz ∧ cur.toList.take (n * sz) = xs := by
  rcases h.2 with ⟨_, h2, _⟩ | h2
  · exact absurd h2 hn
  · exact h2
theorem rrow_ok {cur : Array Value} {rs : List (Int × Nat)} {r g cap : Nat} {z : Int} {x : Nat} (h : cur.toList.take (rs.length * 2) = rcl rs) (hr : rs[r]? = some (z, x)) {z' : Int} (h1 : rs.length ≤ cap) (h2 : cap ≤ maxLen) (h3 : cur.size = cap * 2) : Row 193 2 (.slice (some ⟨g, 0, none⟩) rs.length cap) (rs.set r (z', x)).length (rcl (rs.set r (z', x))) [(g, 193, cur.setIfInBounds (2 * r) (.int .i64 z'))] := by
  refine ⟨rcl_len _, .inr ⟨g, cap, _, by rw [List.length_set], rfl, by rw [List.length_set]; exact h1, h2, by rw [Array.size_setIfInBounds]; exact h3, rrow_set h hr z'⟩⟩
theorem getD_mem {l : List (List Nat)} {i : Nat} (h : i < l.length) : l.getD i [] ∈ l := by
  rw [List.getD_eq_getElem?_getD, List.getElem?_eq_getElem h]
  exact List.getElem_mem _
theorem foldl_take_succ {α : Type} {f : α → Nat → α} {a : α} (l : List Nat) (i : Nat) (h : i < l.length) : (l.take (i + 1)).foldl f a = f ((l.take i).foldl f a) (l.getD i 0) := by
  rw [List.take_succ_eq_append_getElem h, List.foldl_append, List.getD_eq_getElem?_getD, List.getElem?_eq_getElem h]
  rfl
theorem decS1_ok {m : Nat} {st2 : St} (h : Wok m st2) {r : Nat} {zz : Int} {x : Nat} (hr : st2.rules[r]? = some (zz, x)) : Wok m { st2 with rules := st2.rules.set r (IntKind.i64.wrap (zz - 1), x) } :=
  ⟨h.al, h.kl, fun y hy => by
    rcases List.mem_or_eq_of_mem_set hy with hy | rfl
    · exact h.th y hy
    · exact (h.th (zz, x) (List.mem_of_getElem? hr) : x < m), fun l hl y hy => by simpa using h.rl l hl y hy, h.nx, h.nl⟩
set_option maxRecDepth 100000 in
set_option maxHeartbeats 2000000 in
theorem spread_any {z : Base} {b : Wb} {m : Nat} {st : St} {L : BL} {w : World} (H : WH z b m st L w) (hw : Wok m st) (hm : m ≤ 100000) :
    Calls Tryz.prog 83 #[pt b.p] w fun e w' => e = .returned (.tuple #[]) ∧ WH z b m (spreadS st) L w' := by
  go_enter Tryz.func83, Tryz.ntmps83
  refine wp_block ?_
  refine wp_while (fun mq A w' => ∃ (st1 : St) (u1 : Nat → Value), mq = mu st1 ∧ A = ⟨(pt b.p :: un :: u1 2 :: u1 3 :: un :: u1 5 :: u1 6 :: u1 7 :: u1 8 :: u1 9 :: u1 10 :: u1 11 :: u1 12 :: u1 13 :: u1 14 :: u1 15 :: u1 16 :: u1 17 :: u1 18 :: u1 19 :: u1 20 :: u1 21 :: u1 22 :: u1 23 :: u1 24 :: u1 25 :: u1 26 :: u1 27 :: u1 28 :: u1 29 :: u1 30 :: u1 31 :: u1 32 :: u1 33 :: u1 34 :: u1 35 :: u1 36 :: u1 37 :: u1 38 :: u1 39 :: u1 40 :: u1 41 :: u1 42 :: u1 43 :: u1 44 :: u1 45 :: u1 46 :: u1 47 :: u1 48 :: u1 49 :: u1 50 :: u1 51 :: u1 52 :: u1 53 :: u1 54 :: u1 55 :: u1 56 :: u1 57 :: u1 58 :: u1 59 :: u1 60 :: u1 61 :: u1 62 :: u1 63 :: u1 64 :: u1 65 :: u1 66 :: u1 67 :: u1 68 :: u1 69 :: u1 70 :: u1 71 :: u1 72 :: u1 73 :: u1 74 :: u1 75 :: u1 76 :: List.replicate 0 un).toArray, []⟩ ∧ WH z b m st1 L w' ∧ Wok m st1 ∧ spreadS st1 = spreadS st) (mu st) ?_ ?_
  · exact ⟨st, fun ii => (([(2, undef), (3, undef), (5, undef), (6, undef), (7, undef), (8, undef), (9, undef), (10, undef), (11, undef), (12, undef), (13, undef), (14, undef), (15, undef), (16, undef), (17, undef), (18, undef), (19, undef), (20, undef), (21, undef), (22, undef), (23, undef), (24, undef), (25, undef), (26, undef), (27, undef), (28, undef), (29, undef), (30, undef), (31, undef), (32, undef), (33, undef), (34, undef), (35, undef), (36, undef), (37, undef), (38, undef), (39, undef), (40, undef), (41, undef), (42, undef), (43, undef), (44, undef), (45, undef), (46, undef), (47, undef), (48, undef), (49, undef), (50, undef), (51, undef), (52, undef), (53, undef), (54, undef), (55, undef), (56, undef), (57, undef), (58, undef), (59, undef), (60, undef), (61, undef), (62, undef), (63, undef), (64, undef), (65, undef), (66, undef), (67, undef), (68, undef), (69, undef), (70, undef), (71, undef), (72, undef), (73, undef), (74, undef), (75, undef), (76, undef)] : List (Nat × Value)).find? (·.1 == ii)).elim undef (·.2), rfl, by kernel_rfl, H, hw, rfl⟩
  rintro _ _ w2 ⟨st1, u1, rfl, rfl, hW, hok, hsp⟩
  by_cases hne : st1.next = []
  · obtain ⟨rv, nv, avs, Lr, Ln, La, hR, hN, hA, hH⟩ := hW
    rw [hne] at hN
    obtain ⟨pn, cn, rfl⟩ := hN.form
    refine wp_seq (wp_seq (wl_region ?_))
    refine zv (.pointer (some ⟨b.p, 0, none⟩)) ?_
    refine zv (.pointer (some ⟨b.p, 0, none⟩)) ?_
    refine zv (.pointer (some ⟨b.p, 3, none⟩)) ?_
    refine zu (.slice pn 0 cn) (run_load1 (fun w => Tryz.isAgg84 w) ky (((hH.get 0 rfl).cell 3).trans rfl)) ?_
    refine zv (iN .i64 0) ?_
    refine zu (.bool false) (run_gtr (k := .i64) (a := 0) (b := 0) ky ky false (by decide)) ?_
    refine wl_nil (then_at rfl ?_)
    refine wp_cond_false ky ?_
    refine wp_exit ?_
    repeat first | refine then_exit ?_ | refine block_exit ?_ | refine block_exit_ne (by decide) ?_
    exact bodyPost_end (v := .tuple #[]) ky rfl ⟨rfl, by rw [← hsp, spreadS_end hne]; exact ⟨_, _, avs, Lr, Ln, La, hR, by rw [hne]; exact hN, hA, hH⟩⟩
  · obtain ⟨avs, La, hA, rv, nv, Lr, Ln, hR, hN, hH⟩ := hW.open
    have hnn : st1.next.length ≠ 0 := fun e => hne (List.length_eq_zero_iff.1 e)
    obtain ⟨g, cap, cur, rfl, rfl, hc3, hc4, hc5, hcn⟩ := hN.blk hnn
    have hxm : st1.next.getD (st1.next.length - 1) 0 < m := hok.nx _ (by rw [List.getD_eq_getElem?_getD, List.getElem?_eq_getElem (by omega)]; exact List.getElem_mem _)
    obtain ⟨v, LB, LC, LD, hav, hLa, hv, _⟩ := hA.at (st1.next.getD (st1.next.length - 1) 0) (by rw [hok.al]; exact hxm)
    obtain ⟨pv, cv, rfl⟩ := hv.form
    have hnl1 := hok.nl
    have havs : avs.length = m := by rw [hA.len, hok.al]
    obtain ⟨askL, hask⟩ : ∃ l, l = st1.asked.getD (st1.next.getD (st1.next.length - 1) 0) [] := ⟨_, rfl⟩
    rw [← hask] at hv hav
    refine wp_seq (wp_seq (wl_region ?_))
    refine zv (.pointer (some ⟨b.p, 0, none⟩)) ?_
    refine zv (.pointer (some ⟨b.p, 0, none⟩)) ?_
    refine zv (.pointer (some ⟨b.p, 3, none⟩)) ?_
    refine zu (.slice (some ⟨g, 0, none⟩) st1.next.length cap) (run_load1 (fun w => Tryz.isAgg84 w) ky (((hH.get 0 rfl).cell 3).trans rfl)) ?_
    refine zv (iN .i64 st1.next.length) ?_
    refine zu (.bool true) (run_gtr (k := .i64) (a := st1.next.length) (b := 0) ky ky true (decide_eq_true (by omega))) ?_
    refine wl_nil (then_at rfl ?_)
    refine wp_cond_true ky ?_
    refine wp_skip (then_at rfl (wp_block (wp_seq (wl_region ?_))))
    refine zv (.pointer (some ⟨b.p, 0, none⟩)) ?_
    refine zv (.pointer (some ⟨b.p, 0, none⟩)) ?_
    refine zv (.pointer (some ⟨b.p, 3, none⟩)) ?_
    refine zu (.slice (some ⟨g, 0, none⟩) st1.next.length cap) (run_load1 (fun w => Tryz.isAgg84 w) ky (((hH.get 0 rfl).cell 3).trans rfl)) ?_
    refine zv (iN .i64 st1.next.length) ?_
    refine zu (iN .i64 (st1.next.length - 1)) (run_sub (k := .i64) (a := st1.next.length) (b := 1) ky ky (by first | decide | omega | (simp only [top]; omega)) (by first | decide | omega | (simp only [top]; omega))) ?_
    refine zv (iN .i64 (st1.next.length - 1)) ?_
    refine wl_nil (then_at rfl (wp_seq (wl_region ?_)))
    refine zv (.pointer (some ⟨b.p, 0, none⟩)) ?_
    refine zv (.pointer (some ⟨b.p, 0, none⟩)) ?_
    refine zv (.pointer (some ⟨b.p, 3, none⟩)) ?_
    refine zu (.slice (some ⟨g, 0, none⟩) st1.next.length cap) (run_load1 (fun w => Tryz.isAgg84 w) ky (((hH.get 0 rfl).cell 3).trans rfl)) ?_
    refine zv (iN .i64 (st1.next.length - 1)) ?_
    refine zu (.pointer (some ⟨g, st1.next.length - 1, none⟩)) (run_addr_slice (q := g) (n := st1.next.length) (m := cap) (a := st1.next.length - 1) Tryz.underlying84 (fun w => Tryz.sizeOf3 w) ky ky (by omega)) ?_
    refine zu (iN .i64 (st1.next.getD (st1.next.length - 1) 0)) (run_load1 (fun w => Tryz.isAgg3 w) ky (((hH.blk (g, 3, cur) (by simp)).cell (st1.next.length - 1)).trans (nrow_get hcn (by omega)))) ?_
    refine zv (iN .i64 (st1.next.getD (st1.next.length - 1) 0)) ?_
    refine wl_nil (then_at rfl (wp_seq (wl_region ?_)))
    refine zv (.pointer (some ⟨b.p, 0, none⟩)) ?_
    refine zv (.pointer (some ⟨b.p, 0, none⟩)) ?_
    refine zv (.pointer (some ⟨b.p, 0, none⟩)) ?_
    refine zv (.pointer (some ⟨b.p, 3, none⟩)) ?_
    refine zu (.slice (some ⟨g, 0, none⟩) st1.next.length cap) (run_load1 (fun w => Tryz.isAgg84 w) ky (((hH.get 0 rfl).cell 3).trans rfl)) ?_
    refine zv (iN .i64 (st1.next.length - 1)) ?_
    refine zu (.slice (some ⟨g, 0, none⟩) (st1.next.length - 1) cap) (run_cutI (m := st1.next.length) ky ky (by omega)) ?_
    refine zv (.pointer (some ⟨b.p, 0, none⟩)) ?_
    refine zv (.pointer (some ⟨b.p, 3, none⟩)) ?_
    refine wl_putv (v := .slice (some ⟨g, 0, none⟩) (st1.next.length - 1) cap) hH 0 rfl 3 (by show 3 < 4; decide) ky (fun w => Tryz.sizeOf84 w) ky ky ky ?_
    intro w3 (h4 : HA z ((b.p, 148, wcell b m rv (.slice (some ⟨g, 0, none⟩) (st1.next.length - 1) cap)) :: (b.ab, 84, avs.toArray) :: (b.kb, 4, boc st1.known) :: (Lr ++ ([(g, 3, cur)] ++ (La ++ L)))) w3)
    refine wl_nil (then_at rfl (wp_seq (wl_region ?_)))
    refine zv (.pointer (some ⟨b.p, 0, none⟩)) ?_
    refine zv (.pointer (some ⟨b.p, 0, none⟩)) ?_
    refine zv (.pointer (some ⟨b.p, 1, none⟩)) ?_
    refine zu (.slice (some ⟨b.ab, 0, none⟩) m m) (run_load1 (fun w => Tryz.isAgg140 w) ky (((h4.get 0 rfl).cell 1).trans rfl)) ?_
    refine zv (iN .i64 (st1.next.getD (st1.next.length - 1) 0)) ?_
    refine zu (.pointer (some ⟨b.ab, st1.next.getD (st1.next.length - 1) 0, none⟩)) (run_addr_slice (q := b.ab) (n := m) (m := m) (a := st1.next.getD (st1.next.length - 1) 0) Tryz.underlying140 (fun w => Tryz.sizeOf84 w) ky ky (by omega)) ?_
    refine zu (.slice pv askL.length cv) (run_load1 (fun w => Tryz.isAgg84 w) ky (((h4.get 1 rfl).cell (st1.next.getD (st1.next.length - 1) 0)).trans (by simpa using hav))) ?_
    refine zv (iN .i64 askL.length) ?_
    refine zv (iN .i64 0) ?_
    refine wl_nil ?_
    have hNp : Row 3 1 (.slice (some ⟨g, 0, none⟩) (st1.next.length - 1) cap) (st1.next.take (st1.next.length - 1)).length (inl (st1.next.take (st1.next.length - 1))) [(g, 3, cur)] := by
      have hlt : (st1.next.take (st1.next.length - 1)).length = st1.next.length - 1 := by rw [List.length_take]; omega
      rw [hlt]
      exact ⟨by rw [inl, List.length_map, hlt, Nat.mul_one], .inr ⟨g, cap, cur, rfl, rfl, by omega, hc4, hc5, nrow_pop hcn⟩⟩
    have hX0 : WX z b m ((askL.take 0).foldl decS { st1 with next := st1.next.take (st1.next.length - 1) }) avs La L w3 := ⟨_, _, Lr, [(g, 3, cur)], hR, hNp, h4⟩
    refine then_at rfl (wp_block ?_)
    refine wp_count (fun i A w' => ∃ u5 : Nat → Value, A = ⟨(pt b.p :: un :: iN .i64 (st1.next.length - 1) :: iN .i64 (st1.next.getD (st1.next.length - 1) 0) :: un :: u5 5 :: pt b.p :: pt b.p :: .pointer (some ⟨b.p, 3, none⟩) :: .slice (some ⟨g, 0, none⟩) st1.next.length cap :: iN .i64 st1.next.length :: .bool true :: pt b.p :: pt b.p :: .pointer (some ⟨b.p, 3, none⟩) :: .slice (some ⟨g, 0, none⟩) st1.next.length cap :: iN .i64 st1.next.length :: iN .i64 (st1.next.length - 1) :: pt b.p :: pt b.p :: .pointer (some ⟨b.p, 3, none⟩) :: .slice (some ⟨g, 0, none⟩) st1.next.length cap :: iN .i64 (st1.next.length - 1) :: .pointer (some ⟨g, st1.next.length - 1, none⟩) :: iN .i64 (st1.next.getD (st1.next.length - 1) 0) :: pt b.p :: pt b.p :: pt b.p :: .pointer (some ⟨b.p, 3, none⟩) :: .slice (some ⟨g, 0, none⟩) st1.next.length cap :: iN .i64 (st1.next.length - 1) :: .slice (some ⟨g, 0, none⟩) (st1.next.length - 1) cap :: pt b.p :: .pointer (some ⟨b.p, 3, none⟩) :: pt b.p :: pt b.p :: .pointer (some ⟨b.p, 1, none⟩) :: .slice (some ⟨b.ab, 0, none⟩) m m :: iN .i64 (st1.next.getD (st1.next.length - 1) 0) :: .pointer (some ⟨b.ab, st1.next.getD (st1.next.length - 1) 0, none⟩) :: .slice pv askL.length cv :: iN .i64 askL.length :: iN .i64 i :: u5 43 :: u5 44 :: u5 45 :: u5 46 :: u5 47 :: u5 48 :: u5 49 :: u5 50 :: u5 51 :: u5 52 :: u5 53 :: u5 54 :: u5 55 :: u5 56 :: u5 57 :: u5 58 :: u5 59 :: u5 60 :: u5 61 :: u5 62 :: u5 63 :: u5 64 :: u5 65 :: u5 66 :: u5 67 :: u5 68 :: u5 69 :: u5 70 :: u5 71 :: u5 72 :: u5 73 :: u5 74 :: u5 75 :: u5 76 :: List.replicate 0 un).toArray, []⟩ ∧ WX z b m ((askL.take i).foldl decS { st1 with next := st1.next.take (st1.next.length - 1) }) avs La L w') askL.length ?_ ?_ ?_
    · exact ⟨fun ii => (([(5, u1 5), (43, u1 43), (44, u1 44), (45, u1 45), (46, u1 46), (47, u1 47), (48, u1 48), (49, u1 49), (50, u1 50), (51, u1 51), (52, u1 52), (53, u1 53), (54, u1 54), (55, u1 55), (56, u1 56), (57, u1 57), (58, u1 58), (59, u1 59), (60, u1 60), (61, u1 61), (62, u1 62), (63, u1 63), (64, u1 64), (65, u1 65), (66, u1 66), (67, u1 67), (68, u1 68), (69, u1 69), (70, u1 70), (71, u1 71), (72, u1 72), (73, u1 73), (74, u1 74), (75, u1 75), (76, u1 76)] : List (Nat × Value)).find? (·.1 == ii)).elim undef (·.2), by kernel_rfl, hX0⟩
    · rintro i hk _ w6 ⟨u5, rfl, hX⟩
      obtain ⟨gv, capv, curv, hvv, hLC, hv3, hv4, hv5, hvn⟩ := hv.blk (by omega)
      cases hvv
      unfold maxLen at hv4
      have hoks := (decs_ok (askL.take i) { st1 with next := st1.next.take (st1.next.length - 1) } (pop_ok hok)).1
      have hrln := (decs_ok (askL.take i) { st1 with next := st1.next.take (st1.next.length - 1) } (pop_ok hok)).2.2.1
      obtain ⟨st2, hst2⟩ : ∃ s2, s2 = ((askL.take i).foldl decS { st1 with next := st1.next.take (st1.next.length - 1) }) := ⟨_, rfl⟩
      rw [← hst2] at hX hoks hrln
      have hrr : askL.getD i 0 < st2.rules.length := by rw [hrln]; exact hok.rl askL (by rw [hask]; exact getD_mem (by rw [hok.al]; exact hxm)) _ (by rw [List.getD_eq_getElem?_getD, List.getElem?_eq_getElem hk]; exact List.getElem_mem _)
      obtain ⟨r, hrv⟩ : ∃ r, r = askL.getD i 0 := ⟨_, rfl⟩
      rw [← hrv] at hrr
      obtain ⟨⟨zz, x⟩, hr⟩ : ∃ y, st2.rules[r]? = some y := ⟨_, List.getElem?_eq_getElem hrr⟩
      obtain ⟨rv, nv, Lr, Ln, hR2, hN2, hH2⟩ := hX
      obtain ⟨gr, capr, cur, rfl, rfl, hc3, hc4, hc5, hc6⟩ := hR2.blk (by omega)
      have hxm2 : x < m := hoks.th _ (List.mem_of_getElem? hr)
      have hnl2 := hoks.nl
      refine wp_seq (wl_region ?_)
      refine zu (.bool true) (run_lss (k := .i64) (a := i) (b := askL.length) ky ky true (decide_eq_true (by omega))) ?_
      refine wl_nil (then_at rfl (wp_seq ?_))
      refine wp_cond_true ky ?_
      refine wp_skip (then_at rfl (wp_seq (wp_block (wp_seq (wl_region ?_)))))
      refine zu (.pointer (some ⟨gv, i, none⟩)) (run_addr_slice (q := gv) (n := askL.length) (m := cv) (a := i) Tryz.underlying84 (fun w => Tryz.sizeOf3 w) ky ky (by omega)) ?_
      refine zu (iN .i64 r) (run_load1 (fun w => Tryz.isAgg3 w) ky (((hH2.blk (gv, 3, curv) (by rw [hLa, hLC]; simp)).cell i).trans (by rw [hrv]; exact nrow_get hvn hk))) ?_
      refine zv (iN .i64 r) ?_
      refine wl_nil (then_at rfl (wp_seq (wl_region ?_)))
      refine zv (.pointer (some ⟨b.p, 0, none⟩)) ?_
      refine zv (.pointer (some ⟨b.p, 0, none⟩)) ?_
      refine zv (.pointer (some ⟨b.p, 0, none⟩)) ?_
      refine zu (.slice (some ⟨gr, 0, none⟩) st2.rules.length capr) (run_load1 (fun w => Tryz.isAgg146 w) ky (((hH2.get 0 rfl).cell 0).trans rfl)) ?_
      refine zv (iN .i64 r) ?_
      refine zu (.pointer (some ⟨gr, 2 * r, none⟩)) (run_addr92 (n := st2.rules.length) (m := capr) (a := r) ky ky hrr) ?_
      refine zv (.pointer (some ⟨gr, 2 * r, none⟩)) ?_
      refine zu (.int .i64 zz) (run_load1 (fun w => Tryz.isAgg3 w) ky (((hH2.get 3 rfl).cell (2 * r)).trans (rrow_get hc6 hr).1)) ?_
      refine zu (.int .i64 (IntKind.i64.wrap (zz - 1))) (run_subz (z := zz) ky ky) ?_
      refine zu (.pointer (some ⟨gr, 2 * r, none⟩)) (run_addr92 (n := st2.rules.length) (m := capr) (a := r) ky ky hrr) ?_
      refine zv (.pointer (some ⟨gr, 2 * r, none⟩)) ?_
      refine wl_putv (v := .int .i64 (IntKind.i64.wrap (zz - 1))) hH2 3 rfl (2 * r) (by have := (rrow_get hc6 hr).1; exact (Array.getElem?_eq_some_iff.1 this).1) ky (fun w => Tryz.sizeOf3 w) ky ky ky ?_
      intro w7 (h8 : HA z ((b.p, 148, wcell b m (.slice (some ⟨gr, 0, none⟩) st2.rules.length capr) nv) :: (b.ab, 84, avs.toArray) :: (b.kb, 4, boc st2.known) :: (gr, 193, cur.setIfInBounds (2 * r) (.int .i64 (IntKind.i64.wrap (zz - 1)))) :: (Ln ++ (La ++ L))) w7)
      refine wl_nil (then_at rfl (wp_seq ?_))
      by_cases hz0 : IntKind.i64.wrap (zz - 1) = 0
      · refine wl_region ?_
        refine zv (.pointer (some ⟨b.p, 0, none⟩)) ?_
        refine zv (.pointer (some ⟨b.p, 0, none⟩)) ?_
        refine zv (.pointer (some ⟨b.p, 0, none⟩)) ?_
        refine zu (.slice (some ⟨gr, 0, none⟩) st2.rules.length capr) (run_load1 (fun w => Tryz.isAgg146 w) ky (((h8.get 0 rfl).cell 0).trans rfl)) ?_
        refine zv (iN .i64 r) ?_
        refine zu (.pointer (some ⟨gr, 2 * r, none⟩)) (run_addr92 (n := st2.rules.length) (m := capr) (a := r) ky ky hrr) ?_
        refine zv (.pointer (some ⟨gr, 2 * r, none⟩)) ?_
        refine zu (.int .i64 (IntKind.i64.wrap (zz - 1))) (run_load1 (fun w => Tryz.isAgg3 w) ky (((h8.get 3 rfl).cell (2 * r)).trans (by rw [Array.getElem?_setIfInBounds_self_of_lt (by have := (rrow_get hc6 hr).1; exact (Array.getElem?_eq_some_iff.1 this).1)]))) ?_
        refine zu (.bool true) (run_eqz (k := .i64) (a := IntKind.i64.wrap (zz - 1)) (b := 0) ky ky true (decide_eq_true hz0)) ?_
        refine wl_nil (then_at rfl ?_)
        refine wp_cond_true ky ?_
        refine wl_region ?_
        refine zv (.pointer (some ⟨b.p, 0, none⟩)) ?_
        refine zv (.pointer (some ⟨b.p, 0, none⟩)) ?_
        refine zv (.pointer (some ⟨b.p, 0, none⟩)) ?_
        refine zv (.pointer (some ⟨b.p, 0, none⟩)) ?_
        refine zu (.slice (some ⟨gr, 0, none⟩) st2.rules.length capr) (run_load1 (fun w => Tryz.isAgg146 w) ky (((h8.get 0 rfl).cell 0).trans rfl)) ?_
        refine zv (iN .i64 r) ?_
        refine zu (.pointer (some ⟨gr, 2 * r, none⟩)) (run_addr92 (n := st2.rules.length) (m := capr) (a := r) ky ky hrr) ?_
        refine zv (.pointer (some ⟨gr, 2 * r + 1, none⟩)) ?_
        refine zu (iN .i64 x) (run_load1 (fun w => Tryz.isAgg3 w) ky (((h8.get 3 rfl).cell (2 * r + 1)).trans (by rw [Array.getElem?_setIfInBounds_ne (by omega)]; exact (rrow_get hc6 hr).2))) ?_
        have hX2 : WX z b m { st2 with rules := st2.rules.set r (IntKind.i64.wrap (zz - 1), x) } avs La L w7 := ⟨_, _, _, Ln, rrow_ok hc6 hr hc3 hc4 hc5, hN2, h8⟩
        have hok2 : Wok m { st2 with rules := st2.rules.set r (IntKind.i64.wrap (zz - 1), x) } := by have := decS1_ok hoks hr; exact this
        refine wl_callx ky enter82 #[.pointer (some ⟨b.p, 0, none⟩), iN .i64 x] ky (learn_x hX2 hok2 hxm2 (by show st2.next.length ≤ 1000000; omega)) ?_
        rintro _ w9 ⟨rfl, hX3⟩
        refine ⟨_, rfl, ?_⟩
        refine wl_nil (block_normal (then_at rfl (wl_region ?_)))
        refine zu (iN .i64 (i + 1)) (run_add (k := .i64) (a := i) (b := 1) ky ky (by first | decide | omega | (simp only [top]; omega))) ?_
        refine zv (iN .i64 (i + 1)) ?_
        refine wl_nil ?_
        exact then_I ⟨fun ii => (([(5, iN .i64 r), (43, .bool true), (44, .pointer (some ⟨gv, i, none⟩)), (45, iN .i64 r), (46, .pointer (some ⟨b.p, 0, none⟩)), (47, .pointer (some ⟨b.p, 0, none⟩)), (48, .pointer (some ⟨b.p, 0, none⟩)), (49, .slice (some ⟨gr, 0, none⟩) st2.rules.length capr), (50, iN .i64 r), (51, .pointer (some ⟨gr, 2 * r, none⟩)), (52, .pointer (some ⟨gr, 2 * r, none⟩)), (53, .int .i64 zz), (54, .int .i64 (IntKind.i64.wrap (zz - 1))), (55, .pointer (some ⟨gr, 2 * r, none⟩)), (56, .pointer (some ⟨gr, 2 * r, none⟩)), (57, .pointer (some ⟨b.p, 0, none⟩)), (58, .pointer (some ⟨b.p, 0, none⟩)), (59, .pointer (some ⟨b.p, 0, none⟩)), (60, .slice (some ⟨gr, 0, none⟩) st2.rules.length capr), (61, iN .i64 r), (62, .pointer (some ⟨gr, 2 * r, none⟩)), (63, .pointer (some ⟨gr, 2 * r, none⟩)), (64, .int .i64 (IntKind.i64.wrap (zz - 1))), (65, .bool true), (66, .pointer (some ⟨b.p, 0, none⟩)), (67, .pointer (some ⟨b.p, 0, none⟩)), (68, .pointer (some ⟨b.p, 0, none⟩)), (69, .pointer (some ⟨b.p, 0, none⟩)), (70, .slice (some ⟨gr, 0, none⟩) st2.rules.length capr), (71, iN .i64 r), (72, .pointer (some ⟨gr, 2 * r, none⟩)), (73, .pointer (some ⟨gr, 2 * r + 1, none⟩)), (74, iN .i64 x), (75, .tuple #[]), (76, iN .i64 (i + 1))] : List (Nat × Value)).find? (·.1 == ii)).elim undef (·.2), by kernel_rfl, (by rw [foldl_take_succ askL i hk, ← hst2, ← hrv]; unfold decS; rw [hr]; simp only; rw [if_pos hz0]; exact hX3)⟩
      · refine wl_region ?_
        refine zv (.pointer (some ⟨b.p, 0, none⟩)) ?_
        refine zv (.pointer (some ⟨b.p, 0, none⟩)) ?_
        refine zv (.pointer (some ⟨b.p, 0, none⟩)) ?_
        refine zu (.slice (some ⟨gr, 0, none⟩) st2.rules.length capr) (run_load1 (fun w => Tryz.isAgg146 w) ky (((h8.get 0 rfl).cell 0).trans rfl)) ?_
        refine zv (iN .i64 r) ?_
        refine zu (.pointer (some ⟨gr, 2 * r, none⟩)) (run_addr92 (n := st2.rules.length) (m := capr) (a := r) ky ky hrr) ?_
        refine zv (.pointer (some ⟨gr, 2 * r, none⟩)) ?_
        refine zu (.int .i64 (IntKind.i64.wrap (zz - 1))) (run_load1 (fun w => Tryz.isAgg3 w) ky (((h8.get 3 rfl).cell (2 * r)).trans (by rw [Array.getElem?_setIfInBounds_self_of_lt (by have := (rrow_get hc6 hr).1; exact (Array.getElem?_eq_some_iff.1 this).1)]))) ?_
        refine zu (.bool false) (run_eqz (k := .i64) (a := IntKind.i64.wrap (zz - 1)) (b := 0) ky ky false (decide_eq_false hz0)) ?_
        refine wl_nil (then_at rfl ?_)
        refine wp_cond_false ky ?_
        refine wp_skip (block_normal (then_at rfl (wl_region ?_)))
        refine zu (iN .i64 (i + 1)) (run_add (k := .i64) (a := i) (b := 1) ky ky (by first | decide | omega | (simp only [top]; omega))) ?_
        refine zv (iN .i64 (i + 1)) ?_
        refine wl_nil ?_
        exact then_I ⟨fun ii => (([(5, iN .i64 r), (43, .bool true), (44, .pointer (some ⟨gv, i, none⟩)), (45, iN .i64 r), (46, .pointer (some ⟨b.p, 0, none⟩)), (47, .pointer (some ⟨b.p, 0, none⟩)), (48, .pointer (some ⟨b.p, 0, none⟩)), (49, .slice (some ⟨gr, 0, none⟩) st2.rules.length capr), (50, iN .i64 r), (51, .pointer (some ⟨gr, 2 * r, none⟩)), (52, .pointer (some ⟨gr, 2 * r, none⟩)), (53, .int .i64 zz), (54, .int .i64 (IntKind.i64.wrap (zz - 1))), (55, .pointer (some ⟨gr, 2 * r, none⟩)), (56, .pointer (some ⟨gr, 2 * r, none⟩)), (57, .pointer (some ⟨b.p, 0, none⟩)), (58, .pointer (some ⟨b.p, 0, none⟩)), (59, .pointer (some ⟨b.p, 0, none⟩)), (60, .slice (some ⟨gr, 0, none⟩) st2.rules.length capr), (61, iN .i64 r), (62, .pointer (some ⟨gr, 2 * r, none⟩)), (63, .pointer (some ⟨gr, 2 * r, none⟩)), (64, .int .i64 (IntKind.i64.wrap (zz - 1))), (65, .bool false), (66, u5 66), (67, u5 67), (68, u5 68), (69, u5 69), (70, u5 70), (71, u5 71), (72, u5 72), (73, u5 73), (74, u5 74), (75, u5 75), (76, iN .i64 (i + 1))] : List (Nat × Value)).find? (·.1 == ii)).elim undef (·.2), by kernel_rfl, (by rw [foldl_take_succ askL i hk, ← hst2, ← hrv]; unfold decS; rw [hr]; simp only; rw [if_neg hz0]; exact ⟨_, _, _, Ln, rrow_ok hc6 hr hc3 hc4 hc5, hN2, h8⟩)⟩
    · rintro _ w10 ⟨u5, rfl, hX⟩
      refine wp_seq (wl_region ?_)
      refine zu (.bool false) (run_lss (k := .i64) (a := askL.length) (b := askL.length) ky ky false (decide_eq_false (by omega))) ?_
      refine wl_nil (then_at rfl (wp_seq ?_))
      refine wp_cond_false ky ?_
      refine wp_exit ?_
      repeat first | refine then_exit ?_ | refine block_exit ?_ | refine block_exit_ne (by decide) ?_
      refine block_normal ?_
      exact then_I ⟨mu (stepS st1), (stepS_ok hok hne).2, stepS st1, fun ii => (([(2, iN .i64 (st1.next.length - 1)), (3, iN .i64 (st1.next.getD (st1.next.length - 1) 0)), (5, u5 5), (6, .pointer (some ⟨b.p, 0, none⟩)), (7, .pointer (some ⟨b.p, 0, none⟩)), (8, .pointer (some ⟨b.p, 3, none⟩)), (9, .slice (some ⟨g, 0, none⟩) st1.next.length cap), (10, iN .i64 st1.next.length), (11, .bool true), (12, .pointer (some ⟨b.p, 0, none⟩)), (13, .pointer (some ⟨b.p, 0, none⟩)), (14, .pointer (some ⟨b.p, 3, none⟩)), (15, .slice (some ⟨g, 0, none⟩) st1.next.length cap), (16, iN .i64 st1.next.length), (17, iN .i64 (st1.next.length - 1)), (18, .pointer (some ⟨b.p, 0, none⟩)), (19, .pointer (some ⟨b.p, 0, none⟩)), (20, .pointer (some ⟨b.p, 3, none⟩)), (21, .slice (some ⟨g, 0, none⟩) st1.next.length cap), (22, iN .i64 (st1.next.length - 1)), (23, .pointer (some ⟨g, st1.next.length - 1, none⟩)), (24, iN .i64 (st1.next.getD (st1.next.length - 1) 0)), (25, .pointer (some ⟨b.p, 0, none⟩)), (26, .pointer (some ⟨b.p, 0, none⟩)), (27, .pointer (some ⟨b.p, 0, none⟩)), (28, .pointer (some ⟨b.p, 3, none⟩)), (29, .slice (some ⟨g, 0, none⟩) st1.next.length cap), (30, iN .i64 (st1.next.length - 1)), (31, .slice (some ⟨g, 0, none⟩) (st1.next.length - 1) cap), (32, .pointer (some ⟨b.p, 0, none⟩)), (33, .pointer (some ⟨b.p, 3, none⟩)), (34, .pointer (some ⟨b.p, 0, none⟩)), (35, .pointer (some ⟨b.p, 0, none⟩)), (36, .pointer (some ⟨b.p, 1, none⟩)), (37, .slice (some ⟨b.ab, 0, none⟩) m m), (38, iN .i64 (st1.next.getD (st1.next.length - 1) 0)), (39, .pointer (some ⟨b.ab, st1.next.getD (st1.next.length - 1) 0, none⟩)), (40, .slice pv askL.length cv), (41, iN .i64 askL.length), (42, iN .i64 askL.length), (43, .bool false), (44, u5 44), (45, u5 45), (46, u5 46), (47, u5 47), (48, u5 48), (49, u5 49), (50, u5 50), (51, u5 51), (52, u5 52), (53, u5 53), (54, u5 54), (55, u5 55), (56, u5 56), (57, u5 57), (58, u5 58), (59, u5 59), (60, u5 60), (61, u5 61), (62, u5 62), (63, u5 63), (64, u5 64), (65, u5 65), (66, u5 66), (67, u5 67), (68, u5 68), (69, u5 69), (70, u5 70), (71, u5 71), (72, u5 72), (73, u5 73), (74, u5 74), (75, u5 75), (76, u5 76)] : List (Nat × Value)).find? (·.1 == ii)).elim undef (·.2), rfl, by kernel_rfl, (by unfold stepS; rw [← hask]; rw [List.take_length] at hX; exact WX.close hX (by rw [(decs_ok askL _ (pop_ok hok)).2.1]; exact hA)), (stepS_ok hok hne).1, (spreadS_step hok hne).trans hsp⟩
end Go.Proofs.YtoogiblkommdfaaGreat

namespace Go.Proofs.YtoogiblkommdfaaGreat
open Go.RowKit

section
variable {ops : Array Oper} {Q : Exit → Act → World → Prop} {F : (Nat → Nat) → Act} {i i0 i1 : Nat} {dst : Option Tmp} {T ty : TypeId} {pos : String} {aft : Array Edge} {gd : Option (Nat × Bool)}
  {R P0 : World → Prop} {P1 P2 : Nat → World → Prop} {pre : Nat → List Nat}
theorem g2_call1 {f : FuncId} {xs : Array Operand} {ats : Array TypeId} {v : Value} {args : (Nat → Nat) → Array Value} (h10 : ∀ d, Cl pre d → (∀ m ∈ pre i1, d m = true) → d i0 = true) (he : ahead aft (pre i1) = true)
    (hw : ∀ g, Region.wanted ⟨dst, .call { callee := .value (.func f), args := xs, argTypes := ats }, ty, pos, aft, gd⟩ (yielded ops (F g).tmps) = true) (hp : ∀ g, (F g).put dst v = F g)
    (hr : ∀ args w, (callFunc f args).run Tryz.prog w = .ok (.enter f args) w) (ha : ∀ g, #[] ++ xs.map (F g).eval ++ #[] = args g)
    (hc : ∀ g w, R w → P1 (g i0) w → Calls Tryz.prog f (args g) w fun e w' => e = .returned v ∧ R w' ∧ P2 (g i0) w') : OpGhost Tryz.prog .any ops Q (G2 R P0 P1 P2 pre i0 i1) F i1 ⟨dst, .call { callee := .value (.func f), args := xs, argTypes := ats }, ty, pos, aft, gd⟩ := fun g d w h hdi haft => by
  rw [if_pos (hw g)]
  unfold Oper.wp
  have e1 : ¬ d i1 = true := by rw [hdi]; decide
  have e0 : d i0 = true := h10 d h.seen (ahead_ok he haft)
  have hH := h.held
  rw [if_neg e1, if_pos e0] at hH
  rw [execOp_call_go, ha g, hr]
  refine (hc g w h.all hH).mono ?_
  rintro e w' ⟨rfl, hR, hP⟩
  exact ⟨g i1, by rw [up_self]; exact hp g, by rw [up_self]; exact ⟨hR, by rw [up_at, if_pos rfl]; exact hP, h.seen.up (ahead_ok he haft)⟩⟩
end
theorem WH.ha {z : Base} {b : Wb} {m : Nat} {st : St} {L : BL} {w : World} (h : WH z b m st L w) : HA z L w := by
  obtain ⟨rv, nv, avs, Lr, Ln, La, _, _, _, H⟩ := h
  exact H.sub (List.Sublist.cons _ (List.Sublist.cons _ (List.Sublist.cons _ (List.Sublist.trans (List.Sublist.trans (List.sublist_append_right La L) (List.sublist_append_right Ln _)) (List.sublist_append_right Lr _)))))
theorem WH.sub {z : Base} {b : Wb} {m : Nat} {st : St} {L L' : BL} {w : World} (h : WH z b m st L w) (hs : L'.Sublist L) : WH z b m st L' w := by
  obtain ⟨rv, nv, avs, Lr, Ln, La, h1, h2, h3, H⟩ := h
  exact ⟨rv, nv, avs, Lr, Ln, La, h1, h2, h3, H.sub (List.Sublist.cons_cons _ (List.Sublist.cons_cons _ (List.Sublist.cons_cons _ (List.Sublist.append (List.Sublist.refl _) (List.Sublist.append (List.Sublist.refl _) (List.Sublist.append (List.Sublist.refl _) hs))))))⟩
theorem perm_in (a b c e : Nat × TypeId × Array Value) (A B C D : BL) : (e :: (a :: b :: c :: (A ++ (B ++ (C ++ D))))).Perm (a :: b :: c :: (A ++ (B ++ (C ++ (e :: D))))) := by
  have := List.perm_middle (a := e) (l₁ := a :: b :: c :: (A ++ (B ++ C))) (l₂ := D)
  simpa using this.symm
theorem WH.add {z : Base} {b : Wb} {m : Nat} {st : St} {L : BL} {w w' : World} {q : Nat} {t : TypeId} {c : Array Value} (h : WH z b m st L w) (hb : Below w.heap.size w w') (h1 : w.heap.size ≤ q) (h2 : Blk w' q t c) : WH z b m st ((q, t, c) :: L) w' := by
  obtain ⟨rv, nv, avs, Lr, Ln, La, k1, k2, k3, H⟩ := h
  exact ⟨rv, nv, avs, Lr, Ln, La, k1, k2, k3, (HA.addNew H hb h1 h2).perm (perm_in _ _ _ _ _ _ _ _)⟩
theorem WH.make {z : Base} {b : Wb} {m : Nat} {st : St} {L : BL} {w : World} (h : WH z b m st L w) (t : TypeId) (c : Array Value) : WH z b m st ((w.heap.size, t, c) :: L) (w.alloc (.cells c t)) :=
  h.add ((Below.refl _ w).alloc (Nat.le_refl _) _) (Nat.le_refl _) (Blk.new w t c)
theorem wl_makeW {ops : Array Oper} {Q : Exit → Act → World → Prop} {a : Act} {rest : List Oper} {w : World} {z : Base} {b : Wb} {m : Nat} {st : St} {L : BL} {o : Oper} {c : Array Value} (H : WH z b m st L w) (ty : TypeId) (hw : Region.wanted o (yielded ops a.tmps) = true) (hr : (execOp a.eval o).run Tryz.prog w = .ok (.value (.pointer (some ⟨w.heap.size, 0, none⟩))) (w.alloc (.cells c ty)))
    (h : ∀ q w', WH z b m st ((q, ty, c) :: L) w' → WL Tryz.prog ops Q rest (a.put o.dst (.pointer (some ⟨q, 0, none⟩))) w') : WL Tryz.prog ops Q (o :: rest) a w := wl_any hw hr (h _ _ (H.make ty c))
theorem wl_mksW {ops : Array Oper} {Q : Exit → Act → World → Prop} {a : Act} {rest : List Oper} {w : World} {z : Base} {b : Wb} {m : Nat} {st : St} {L : BL} {o : Oper} {n k : Nat} {c : Array Value} (H : WH z b m st L w) (ty : TypeId) (hw : Region.wanted o (yielded ops a.tmps) = true) (hr : (execOp a.eval o).run Tryz.prog w = .ok (.value (.slice (some ⟨w.heap.size, 0, none⟩) n k)) (w.alloc (.cells c ty)))
    (h : ∀ q w', WH z b m st ((q, ty, c) :: L) w' → WL Tryz.prog ops Q rest (a.put o.dst (.slice (some ⟨q, 0, none⟩) n k)) w') : WL Tryz.prog ops Q (o :: rest) a w := wl_any hw hr (h _ _ (H.make ty c))
theorem wl_fillW {ops : Array Oper} {Q : Exit → Act → World → Prop} {a : Act} {rest : List Oper} {dst : Option Tmp} {ty ty' t : TypeId} {pos : String} {aft : Array Edge} {gd : Option (Nat × Bool)} {w : World} {z : Base} {b : Wb} {m : Nat} {st : St} {L : BL} {x y : Operand} {q : Nat} {c c' : Array Value} (H : WH z b m st ((q, t, c) :: L) w) (hw : Region.wanted ⟨dst, .store ty x y, ty', pos, aft, gd⟩ (yielded ops a.tmps) = true)
    (hx : a.eval x = .pointer (some ⟨q, 0, none⟩)) (hy : a.eval y = .agg c') (hs : c'.size = c.size) (hz : (Tryz.prog.info? ty).map (·.size) = some c'.size) (h1 : c'.all (·.oneCell') = true)
    (h : ∀ w', WH z b m st ((q, t, c') :: L) w' → WL Tryz.prog ops Q rest (a.put dst undef) w') : WL Tryz.prog ops Q (⟨dst, .store ty x y, ty', pos, aft, gd⟩ :: rest) a w := by
  obtain ⟨rv, nv, avs, Lr, Ln, La, k1, k2, k3, HH⟩ := H
  have H1 := HH.perm (perm_in _ _ _ _ _ _ _ _).symm
  exact wl_anyS hw (run_store_blk hx hy (H1.get 0 rfl) hs hz h1) (h _ ⟨rv, nv, avs, Lr, Ln, La, k1, k2, k3, (H1.fill (c' := c') 0 rfl hs).perm (perm_in _ _ _ _ _ _ _ _)⟩)
/-! what is laid -/
def pubT (es : List Ent) (x : Nat) : Option Nat := lkR (mks es 0) (recOf 3 0 { data := #[] } [x])
def halfS (es : List Ent) (st : St) (x a o : Nat) : St := match pubT es o with | some p => ruleS st x [a, p] | none => st
def madeS (es : List Ent) (st : St) (x k n : Nat) (ps : List Nat) : St :=
  if k = 4 then (if n = 0 then halfS es (halfS es (ruleS st x ps) x (ps.getD 0 0) (ps.getD 1 0)) x (ps.getD 1 0) (ps.getD 0 0) else ruleS st x ps)
  else if k = 6 then ruleS (ruleS st x ps) (ps.getD 3 0) [x, ps.getD 0 0]
  else if k = 7 then ruleS (ruleS st x ps) (ps.getD 1 0) [x] else ruleS st x ps
def layS (es : List Ent) (st : St) (x : Nat) : Ent → St
  | .nm _ => st
  | .dt s => (wth es.length s).foldl (fun st y => ruleS st y [x]) (ruleS st x (wth es.length s))
  | .mk k n _ ps _ => madeS es st x k n ps
/-- what every table has besides -/
structure Wg (es : List Ent) : Prop where
  lt : ∀ (i : Nat) k n s ps b, es[i]? = some (Ent.mk k n s ps b) → ∀ x ∈ ps, x < es.length
  two : ∀ (i : Nat) n s ps b, es[i]? = some (Ent.mk 4 n s ps b) → ps.length = 2
  four : ∀ (i : Nat) n s ps b, es[i]? = some (Ent.mk 6 n s ps b) → ps.length = 4
  sig : ∀ (i : Nat) n s ps b, es[i]? = some (Ent.mk 7 n s ps b) → ps.length = 2
theorem Wg.nil : Wg [] := ⟨fun i _ _ _ _ _ h => by simp at h, fun i _ _ _ _ h => by simp at h, fun i _ _ _ _ h => by simp at h, fun i _ _ _ _ h => by simp at h⟩
theorem Wg.app {es : List Ent} (h : Wg es) (e : Ent) (h1 : ∀ k n s ps b, e = .mk k n s ps b → (∀ x ∈ ps, x < es.length) ∧ (k = 4 → ps.length = 2) ∧ (k = 6 → ps.length = 4) ∧ (k = 7 → ps.length = 2)) : Wg (es ++ [e]) := by
  have key : ∀ (i : Nat) x, (es ++ [e])[i]? = some x → es[i]? = some x ∨ x = e := fun i x hx => by
    rcases Nat.lt_or_ge i es.length with hi | hi
    · rw [List.getElem?_append_left hi] at hx; exact .inl hx
    · rw [List.getElem?_append_right hi] at hx
      cases hj : i - es.length with
      | zero => rw [hj] at hx; exact .inr (Option.some.inj hx).symm
      | succ j => rw [hj] at hx; cases hx
  refine ⟨fun i k n s ps b hi x hx => ?_, fun i n s ps b hi => ?_, fun i n s ps b hi => ?_, fun i n s ps b hi => ?_⟩
  · rw [List.length_append, List.length_singleton]
    rcases key i _ hi with h' | h'
    · have := h.lt i k n s ps b h' x hx; omega
    · have := (h1 k n s ps b h'.symm).1 x hx; omega
  · rcases key i _ hi with h' | h'
    · exact h.two i n s ps b h'
    · exact (h1 4 n s ps b h'.symm).2.1 rfl
  · rcases key i _ hi with h' | h'
    · exact h.four i n s ps b h'
    · exact (h1 6 n s ps b h'.symm).2.2.1 rfl
  · rcases key i _ hi with h' | h'
    · exact h.sig i n s ps b h'
    · exact (h1 7 n s ps b h'.symm).2.2.2 rfl
theorem Wg.nm {es : List Ent} (h : Wg es) (n : Nat) : Wg (es ++ [.nm n]) := h.app _ (fun _ _ _ _ _ h => by cases h)
theorem Wg.part {es : List Ent} (h : Wg es) (s : ByteArray) : Wg (partF es s).1 := by
  unfold partF
  split
  · exact h
  · split
    · exact h
    · exact h.app _ (fun _ _ _ _ _ h => by cases h)
theorem Wg.parts {es : List Ent} (h : Wg es) (ss : List ByteArray) : ∀ k, Wg (pfE es ss k)
  | 0 => h
  | k + 1 => (h.parts ss k).part _
theorem secT_lt {es : List Ent} (h : Wg es) (h' : Wf es) {p b : Nat} (hb : secT es p = some b) : b < es.length := by
  unfold secT at hb
  split at hb
  · rename_i k n s ps c he
    split at hb
    · rename_i hk
      subst hk
      obtain rfl := Option.some.inj hb
      have hl := h'.one p n s ps c he
      refine h.lt p 3 n s ps c he _ ?_
      rw [List.getD_eq_getElem?_getD, List.getElem?_eq_getElem (by omega)]
      exact List.getElem_mem _
    · cases hb
  · cases hb
theorem JO.wg {es es' : List Ent} {k x : Nat} {label : ByteArray} {ss : List ByteArray} (hg : Wg es) (hw : Wf es) (h : JO es k label ss x es') (hl : es.length + ss.length < 60000) (h4 : k = 4 → ss.length = 2) (h6 : k = 6 → ss.length = 4) (h7 : k = 7 → ss.length = 2) : Wg es' := by
  have h1 := hg.parts ss ss.length
  have h2 := hw.parts ss ss.length (by omega)
  rcases h with ⟨_, rfl⟩ | ⟨_, _, b, rfl⟩
  · exact h1
  · refine h1.app _ (fun k' n' s' ps' b' e => ?_)
    cases e
    by_cases hk : k = 4
    · subst hk
      have e3 : joinP (pfE es ss ss.length) 4 (pfN es ss ss.length) = dhP (pfE es ss ss.length) ((pfN es ss ss.length).getD 0 0) ((pfN es ss ss.length).getD 1 0) := if_pos rfl
      have n0 := ns_lt es ss (j := 0) (by have := h4 rfl; omega)
      have n1 := ns_lt es ss (j := 1) (by have := h4 rfl; omega)
      rw [e3]
      refine ⟨fun y hy => ?_, fun _ => dhP_len _ _ _, fun h => by omega, fun h => by omega⟩
      unfold dhP at hy
      split at hy
      · rename_i c hc
        have := secT_lt h1 h2 hc
        simp only [List.mem_cons, List.not_mem_nil, or_false] at hy
        omega
      · simp only [List.mem_cons, List.not_mem_nil, or_false] at hy
        omega
    · have e3 : joinP (pfE es ss ss.length) k (pfN es ss ss.length) = pfN es ss ss.length := if_neg hk
      rw [e3]
      exact ⟨pfN_lt es ss ss.length, fun h => absurd h hk, fun h => by rw [pfN_len]; exact h6 h, fun h => by rw [pfN_len]; exact h7 h⟩
end Go.Proofs.YtoogiblkommdfaaGreat
