/-
 What is known is the least set that the rules close.
-/
import Derived.Test.YtihfeoanognonaaGreatT17
namespace Go.Proofs.YtihfeoanognonaaGreat
open Go.RowKit
inductive Der (R : List (Nat × List Nat)) (S : Nat → Prop) : Nat → Prop
 | seen {x : Nat} : S x → Der R S x
 | rule {r : Nat × List Nat} : r ∈ R → (∀ y ∈ r.2, Der R S y) → Der R S r.1
theorem Der.mono {R R' : List (Nat × List Nat)} {S S' : Nat → Prop} (hR : ∀ r ∈ R, r ∈ R') (hS : ∀ x, S x → Der R' S' x) {x : Nat} (h : Der R S x) : Der R' S' x := by
 induction h with
 | seen h => exact hS _ h
 | rule hr _ ih => exact .rule (hR _ hr) ih
def kn (st : St) (y : Nat) : Bool := st.known.getD y false
def unk (st : St) (y : Nat) : Bool := !(kn st y) || st.next.contains y
structure Cx (m : Nat) (R : List (Nat × List Nat)) (S : Nat → Prop) (X : List Nat) (st : St) : Prop where
 ok : Wok m st
 len : st.rules.length = R.length
 lt : ∀ t ∈ R, t.1 < m
 br : ∀ t ∈ R, t.2.length ≤ 1000000
 bx : ∀ r, X.count r ≤ 1000000
 rule : ∀ (r : Nat) t, R[r]? = some t → st.rules[r]? = some (((t.2.countP (unk st) + X.count r : Nat) : Int), t.1)
 asked : ∀ (y r : Nat) t, y < m → R[r]? = some t → (st.asked.getD y []).count r = t.2.count y
 zero : ∀ (r : Nat) t, R[r]? = some t → t.2.countP (unk st) + X.count r = 0 → kn st t.1 = true
 sound : ∀ x, kn st x = true → Der R S x
 nxk : ∀ x ∈ st.next, kn st x = true
 nd : st.next.Nodup
theorem kn_learn (st : St) (x y : Nat) (hx : x < st.known.length) : kn (learnS st x) y = (kn st y || decide (y = x)) := by
 unfold learnS kn
 split
 ·rename_i h
  by_cases e : y = x
  ·subst e; rw [h]; rfl
  ·simp [e]
 ·by_cases e : y = x
  ·subst e; simp [hx]
  ·simp only [List.getD_eq_getElem?_getD]
   rw [List.getElem?_set_ne (Ne.symm e)]
   simp [e]
theorem unk_learn (st : St) (x : Nat) (hx : x < st.known.length) : unk (learnS st x) = unk st := by
 funext y
 unfold unk
 rw [kn_learn st x y hx]
 unfold learnS
 split
 ·rename_i h
  by_cases e : y = x
  ·subst e
   have : kn st y = true := h
   rw [this]; simp
  ·simp [e]
 ·rename_i h
  by_cases e : y = x
  ·subst e
   have : kn st y = false := by unfold kn; simpa using h
   rw [this]; simp
  ·simp [e]
theorem Cx.learn {m : Nat} {R : List (Nat × List Nat)} {S : Nat → Prop} {X : List Nat} {st : St} (h : Cx m R S X st) {x : Nat} (hx : x < m) (hd : Der R S x) : Cx m R S X (learnS st x) := by
 have hl : x < st.known.length := by rw [h.ok.kl]; exact hx
 have hu := unk_learn st x hl
 obtain ⟨e1, e2⟩ := learnS_rules st x
 refine ⟨learnS_ok h.ok hx, by rw [e1]; exact h.len, h.lt, h.br, h.bx, fun r t ht => by rw [e1, hu]; exact h.rule r t ht, fun y r t hy ht => by rw [e2]; exact h.asked y r t hy ht, fun r t ht hz => ?_, fun y hy => ?_, fun y hy => ?_, ?_⟩
 ·rw [hu] at hz
  rw [kn_learn st x _ hl, h.zero r t ht hz]; rfl
 ·rw [kn_learn st x y hl, Bool.or_eq_true] at hy
  rcases hy with hy | hy
  ·exact h.sound y hy
  ·rw [of_decide_eq_true hy]; exact hd
 ·rw [kn_learn st x y hl]
  unfold learnS at hy
  split at hy
  ·rw [h.nxk y hy]; rfl
  ·rcases List.mem_append.1 hy with hy | hy
   ·rw [h.nxk y hy]; rfl
   ·rw [List.mem_singleton.1 hy]; simp
 ·unfold learnS
  split
  ·exact h.nd
  ·rename_i hk
   refine List.nodup_append.2 ⟨h.nd, by simp, fun a ha b hb e => ?_⟩
   rw [List.mem_singleton.1 hb] at e
   subst e
   exact hk (h.nxk a ha)
theorem wrap_nat {n : Nat} (h : n < 9223372036854775808) : IntKind.i64.wrap (n : Int) = n := by
 simp only [IntKind.wrap, IntKind.signed, IntKind.bits]
 simp
 omega
theorem kn_learn_mono {st : St} {x y : Nat} (h : kn st y = true) : kn (learnS st x) y = true := by
 unfold learnS
 split
 ·exact h
 ·unfold kn at h ⊢
  by_cases e : y = x
  ·subst e
   rename_i hk
   exact absurd h hk
  ·simp only [List.getD_eq_getElem?_getD] at h ⊢
   rw [List.getElem?_set_ne (Ne.symm e)]
   exact h
theorem Cx.dec {m : Nat} {R : List (Nat × List Nat)} {S : Nat → Prop} {X : List Nat} {r : Nat} {st : St} (h : Cx m R S (r :: X) st) (hr : r < R.length) : Cx m R S X (decS st r) ∧ ∀ y, kn st y = true → kn (decS st r) y = true := by
 obtain ⟨t, ht⟩ : ∃ t, R[r]? = some t := ⟨_, List.getElem?_eq_getElem hr⟩
 have hru := h.rule r t ht
 have htm : t ∈ R := List.mem_of_getElem? ht
 have hb1 := h.br t htm
 have hb2 := h.bx r
 have hcp : t.2.countP (unk st) ≤ t.2.length := List.countP_le_length
 have hc1 : (r :: X).count r = X.count r + 1 := by simp
 rw [hc1] at hru hb2
 have hw : IntKind.i64.wrap ((((t.2.countP (unk st) + (X.count r + 1) : Nat) : Int)) - 1) = ((t.2.countP (unk st) + X.count r : Nat) : Int) := by
  rw [show (((t.2.countP (unk st) + (X.count r + 1) : Nat) : Int)) - 1 = ((t.2.countP (unk st) + X.count r : Nat) : Int) by omega]
  exact wrap_nat (by omega)
 have hrl : r < st.rules.length := by rw [h.len]; exact hr
 have base : ∀ st' : St, st' = { st with rules := st.rules.set r (((t.2.countP (unk st) + X.count r : Nat) : Int), t.1) } → (t.2.countP (unk st) + X.count r = 0 → kn st t.1 = true) → Cx m R S X st' := by
  rintro _ rfl hz0
  refine ⟨⟨h.ok.al, h.ok.kl, fun x hx => ?_, fun l hl x hx => by rw [List.length_set]; exact h.ok.rl l hl x hx, h.ok.nx, h.ok.nl⟩, by rw [List.length_set]; exact h.len, h.lt, h.br, fun q => ?_, fun q u hu => ?_, h.asked, fun q u hu hz => ?_, h.sound, h.nxk, h.nd⟩
  ·rcases List.mem_or_eq_of_mem_set hx with hx | rfl
   ·exact h.ok.th x hx
   ·exact h.lt t htm
  ·have := h.bx q
   rw [List.count_cons] at this
   omega
  ·by_cases e : r = q
   ·subst e
    rw [ht] at hu
    cases hu
    rw [List.getElem?_set_self hrl]
    rfl
   ·rw [List.getElem?_set_ne e]
    have := h.rule q u hu
    rw [List.count_cons, if_neg (by simpa using e)] at this
    exact this
  ·by_cases e : r = q
   ·subst e
    rw [ht] at hu
    cases hu
    exact hz0 hz
   ·refine h.zero q u hu ?_
    rw [List.count_cons, if_neg (by simpa using e)]
    exact hz
 unfold decS
 rw [hru]
 simp only [hw]
 by_cases h0 : t.2.countP (unk st) + X.count r = 0
 ·rw [if_pos (by rw [h0]; rfl)]
  have hder : Der R S t.1 := .rule htm fun y hy => by
   have : t.2.countP (unk st) = 0 := by omega
   rw [List.countP_eq_zero] at this
   have := this y hy
   unfold unk at this
   refine h.sound y ?_
   cases hk : kn st y with
   | true => rfl
   | false => rw [hk] at this; simp at this
  -- learn first, in the old state, then the rule's number
  have hl := h.learn (h.lt t htm) hder
  have hkl : t.1 < st.known.length := by rw [h.ok.kl]; exact h.lt t htm
  have hs : learnS { st with rules := st.rules.set r (((t.2.countP (unk st) + X.count r : Nat) : Int), t.1) } t.1 = { learnS st t.1 with rules := st.rules.set r (((t.2.countP (unk st) + X.count r : Nat) : Int), t.1) } := by
   unfold learnS
   split <;> rfl
  refine ⟨?_, fun y hy => by rw [hs]; exact kn_learn_mono hy⟩
  rw [hs]
  obtain ⟨e1, e2⟩ := learnS_rules st t.1
  have hu := unk_learn st t.1 hkl
  have hkt : kn (learnS st t.1) t.1 = true := by rw [kn_learn st t.1 _ hkl]; simp
  refine ⟨⟨hl.ok.al, hl.ok.kl, fun x hx => ?_, fun l hl' x hx => by rw [List.length_set]; have := hl.ok.rl l hl' x hx; rw [e1] at this; exact this, hl.ok.nx, hl.ok.nl⟩, by rw [List.length_set]; exact h.len, h.lt, h.br, fun q => ?_, fun q u hu' => ?_, hl.asked, fun q u hu' hz => ?_, hl.sound, hl.nxk, hl.nd⟩
  ·rcases List.mem_or_eq_of_mem_set hx with hx | rfl
   ·exact h.ok.th x hx
   ·exact h.lt t htm
  ·have := h.bx q
   rw [List.count_cons] at this
   omega
  ·show (st.rules.set r _)[q]? = some (((u.2.countP (unk (learnS st t.1)) + X.count q : Nat) : Int), u.1)
   rw [hu]
   by_cases e : r = q
   ·subst e
    rw [ht] at hu'
    cases hu'
    rw [List.getElem?_set_self hrl]
   ·rw [List.getElem?_set_ne e]
    have := h.rule q u hu'
    rw [List.count_cons, if_neg (by simpa using e)] at this
    exact this
  ·show kn (learnS st t.1) u.1 = true
   have hz' : u.2.countP (unk (learnS st t.1)) + X.count q = 0 := hz
   by_cases e : r = q
   ·subst e
    rw [ht] at hu'
    cases hu'
    exact hkt
   ·refine hl.zero q u hu' ?_
    rw [List.count_cons, if_neg (by simpa using e)]
    exact hz'
 ·rw [if_neg (by omega)]
  exact ⟨base _ rfl (fun h => absurd h h0), fun y hy => hy⟩
theorem Cx.decs {m : Nat} {R : List (Nat × List Nat)} {S : Nat → Prop} : ∀ (X : List Nat) (st : St), Cx m R S X st → (∀ r ∈ X, r < R.length) → Cx m R S [] (X.foldl decS st) ∧ ∀ y, kn st y = true → kn (X.foldl decS st) y = true
 | [], st, h, _ => ⟨h, fun _ hy => hy⟩
 | r :: X, st, h, hX => by
  obtain ⟨h1, h2⟩ := h.dec (hX r (List.mem_cons_self ..))
  obtain ⟨h3, h4⟩ := Cx.decs X (decS st r) h1 (fun q hq => hX q (List.mem_cons_of_mem _ hq))
  exact ⟨h3, fun y hy => h4 y (h2 y hy)⟩
theorem countP_pop {p q : Nat → Bool} {x : Nat} (h1 : p x = true) (h2 : q x = false) (h3 : ∀ y, y ≠ x → p y = q y) : ∀ l : List Nat, l.countP p = l.countP q + l.count x
 | [] => rfl
 | y :: l => by
  have ih := countP_pop h1 h2 h3 l
  rw [List.countP_cons, List.countP_cons, List.count_cons, ih]
  by_cases e : y = x
  ·subst e; simp [h1, h2]; omega
  ·rw [h3 y e]; simp [e]; omega
theorem Cx.step {m : Nat} {R : List (Nat × List Nat)} {S : Nat → Prop} {st : St} (h : Cx m R S [] st) (hn : st.next ≠ []) : Cx m R S [] (stepS st) ∧ ∀ y, kn st y = true → kn (stepS st) y = true := by
 obtain ⟨ini, x, hx⟩ : ∃ ini x, st.next = ini ++ [x] := ⟨st.next.dropLast, st.next.getLast hn, (List.dropLast_concat_getLast hn).symm⟩
 have hlast : st.next.getD (st.next.length - 1) 0 = x := by rw [hx]; simp
 have htake : st.next.take (st.next.length - 1) = ini := by rw [hx]; simp
 have hxm : x < m := h.ok.nx x (by rw [hx]; simp)
 have hnd := h.nd
 rw [hx, List.nodup_append] at hnd
 have hxi : x ∉ ini := fun hm => hnd.2.2 x hm x (by simp) rfl
 unfold stepS
 rw [hlast, htake]
 have hun : ∀ t : List Nat, t.countP (unk st) = t.countP (unk { st with next := ini }) + t.count x := countP_pop
  (by unfold unk; rw [hx]; simp) (by unfold unk; have := h.nxk x (by rw [hx]; simp); show (!(kn st x) || ini.contains x) = false; rw [this]; simp [hxi])
  (fun y hy => by unfold unk; rw [hx]; show _ = (!(kn st y) || ini.contains y); simp [hy])
 have hal : x < st.asked.length := by rw [h.ok.al]; exact hxm
 have hmem : st.asked.getD x [] ∈ st.asked := by rw [List.getD_eq_getElem?_getD, List.getElem?_eq_getElem hal]; exact List.getElem_mem hal
 have hX : ∀ r ∈ st.asked.getD x [], r < R.length := fun r hr => by rw [← h.len]; exact h.ok.rl _ hmem r hr
 have hc : ∀ (r : Nat) t, R[r]? = some t → (st.asked.getD x []).count r = t.2.count x := fun r t ht => h.asked x r t hxm ht
 refine Cx.decs (st.asked.getD x []) { st with next := ini } ?_ hX
 have hok := pop_ok h.ok
 rw [htake] at hok
 refine ⟨hok, h.len, h.lt, h.br, fun r => ?_, fun r t ht => ?_, h.asked, fun r t ht hz => ?_, h.sound, fun y hy => h.nxk y (by rw [hx]; simp [hy]), hnd.1⟩
 ·rcases Nat.lt_or_ge r R.length with hr | hr
  ·have ht := List.getElem?_eq_getElem hr
   rw [hc r _ ht]
   exact Nat.le_trans List.count_le_length (h.br _ (List.getElem_mem hr))
  ·have : (st.asked.getD x []).count r = 0 := List.count_eq_zero.2 fun hm => by have := hX r hm; omega
   omega
 ·have := h.rule r t ht
  rw [hun t.2] at this
  rw [hc r t ht]
  simpa using this
 ·refine h.zero r t ht ?_
  rw [hc r t ht] at hz
  rw [hun t.2]
  simpa using hz
theorem Cx.run {m : Nat} {R : List (Nat × List Nat)} {S : Nat → Prop} : ∀ (n : Nat) (st : St), Cx m R S [] st → Cx m R S [] (runS n st) ∧ ∀ y, kn st y = true → kn (runS n st) y = true
 | 0, st, h => ⟨h, fun _ hy => hy⟩
 | n + 1, st, h => by
  rw [runS]
  split
  ·exact ⟨h, fun _ hy => hy⟩
  ·rename_i hn
   obtain ⟨h1, h2⟩ := h.step hn
   obtain ⟨h3, h4⟩ := Cx.run n _ h1
   exact ⟨h3, fun y hy => h4 y (h2 y hy)⟩
theorem Cx.end {m : Nat} {R : List (Nat × List Nat)} {S : Nat → Prop} {st : St} (h : Cx m R S [] st) (hs : ∀ x, S x → kn st x = true) (x : Nat) : kn (spreadS st) x = true ↔ Der R S x := by
 obtain ⟨h1, h2⟩ := Cx.run (mu st) st h
 have hn := runS_next (mu st) st h.ok (Nat.le_refl _)
 refine ⟨h1.sound x, fun hd => ?_⟩
 induction hd with
 | seen hx => exact h2 _ (hs _ hx)
 | @rule r hr _ ih =>
  obtain ⟨i, hi, rfl⟩ := List.getElem_of_mem hr
  refine h1.zero i _ (List.getElem?_eq_getElem hi) ?_
  rw [List.count_nil, Nat.add_zero, List.countP_eq_zero]
  intro y hy
  have := ih y hy
  unfold unk
  rw [hn]
  show ¬ (!(kn (runS (mu st) st) y) || [].contains y) = true
  have e : kn (runS (mu st) st) y = true := this
  rw [e]; simp
/-! laying -/
structure Ly (m : Nat) (R : List (Nat × List Nat)) (S : Nat → Prop) (st : St) : Prop where
 cx : Cx m R S [] st
 un : ∀ y, unk st y = true
theorem ask_count (k y r : Nat) : ∀ (l : List Nat) (a : List (List Nat)), (∀ z ∈ l, z < a.length) → ((l.foldl (fun a x => a.set x (a.getD x [] ++ [k])) a).getD y []).count r = (a.getD y []).count r + (if r = k then l.count y else 0)
 | [], a, _ => by simp
 | z :: l, a, h => by
  rw [List.foldl_cons, ask_count k y r l _ (fun u hu => by rw [List.length_set]; exact h u (List.mem_cons_of_mem _ hu))]
  have hz := h z (List.mem_cons_self ..)
  rw [List.count_cons]
  by_cases e : z = y
  ·subst e
   rw [List.getD_eq_getElem?_getD (l := a.set z _), List.getElem?_set_self hz]
   simp only [Option.getD_some, List.count_append, List.count_singleton]
   by_cases e2 : r = k
   ·subst e2; simp; omega
   ·simp [e2, Ne.symm e2]
  ·rw [List.getD_eq_getElem?_getD (l := a.set z _), List.getElem?_set_ne e, ← List.getD_eq_getElem?_getD]
   simp [e]
theorem Ly.rule {m : Nat} {R : List (Nat × List Nat)} {S : Nat → Prop} {st : St} (h : Ly m R S st) {x : Nat} (hx : x < m) (l : List Nat) (hl : ∀ y ∈ l, y < m) (hb : l.length ≤ 1000000) : Ly m (R ++ [(x, l)]) S (ruleS st x l) := by
 have hok := ruleS_ok h.cx.ok hx l
 have hmono : ∀ y, Der R S y → Der (R ++ [(x, l)]) S y := fun y hy => hy.mono (fun r hr => List.mem_append_left _ hr) (fun z hz => .seen hz)
 have hcl : l.countP (unk st) = l.length := by rw [List.countP_eq_length]; exact fun y _ => h.un y
 have key : ∀ (r : Nat) t, (R ++ [(x, l)])[r]? = some t → (R[r]? = some t) ∨ (r = R.length ∧ t = (x, l)) := fun r t ht => by
  rw [List.getElem?_append] at ht
  split at ht
  ·exact .inl ht
  ·rename_i hr
   right
   cases hj : r - R.length with
   | zero => rw [hj] at ht; simp at ht; exact ⟨by omega, ht.symm⟩
   | succ j => rw [hj] at ht; simp at ht
 have hmain : ∀ hok' : Wok m { st with asked := askS st st.rules.length l, rules := st.rules ++ [((l.length : Int), x)] }, (l.length = 0 → kn st x = true) → Cx m (R ++ [(x, l)]) S [] { st with asked := askS st st.rules.length l, rules := st.rules ++ [((l.length : Int), x)] } := fun hok' hz0 => by
  refine ⟨hok', by simp [h.cx.len], fun t ht => ?_, fun t ht => ?_, fun r => by simp, fun r t ht => ?_, fun y r t hy ht => ?_, fun r t ht hz => ?_, fun y hy => hmono y (h.cx.sound y hy), h.cx.nxk, h.cx.nd⟩
  ·rcases List.mem_append.1 ht with ht | ht
   ·exact h.cx.lt t ht
   ·rw [List.mem_singleton.1 ht]; exact hx
  ·rcases List.mem_append.1 ht with ht | ht
   ·exact h.cx.br t ht
   ·rw [List.mem_singleton.1 ht]; exact hb
  ·show (st.rules ++ [((l.length : Int), x)])[r]? = some (((t.2.countP (unk st) + 0 : Nat) : Int), t.1)
   rcases key r t ht with h1 | ⟨rfl, rfl⟩
   ·have hr : r < R.length := (List.getElem?_eq_some_iff.1 h1).1
    rw [List.getElem?_append_left (by rw [h.cx.len]; exact hr)]
    simpa using h.cx.rule r t h1
   ·rw [List.getElem?_append_right (by rw [h.cx.len]; exact Nat.le_refl _), h.cx.len, Nat.sub_self]
    simp [hcl]
  ·show ((askS st st.rules.length l).getD y []).count r = _
   unfold askS
   rw [ask_count _ _ _ _ _ (fun z hz => by rw [h.cx.ok.al]; exact hl z hz), h.cx.len]
   rcases key r t ht with h1 | ⟨rfl, rfl⟩
   ·have hr : r < R.length := (List.getElem?_eq_some_iff.1 h1).1
    rw [if_neg (by omega), h.cx.asked y r t hy h1]; rfl
   ·have hay : y < st.asked.length := by rw [h.cx.ok.al]; exact hy
    have hm : st.asked.getD y [] ∈ st.asked := by rw [List.getD_eq_getElem?_getD, List.getElem?_eq_getElem hay]; exact List.getElem_mem hay
    have : (st.asked.getD y []).count R.length = 0 := List.count_eq_zero.2 fun hq => by have := h.cx.ok.rl _ hm _ hq; rw [h.cx.len] at this; omega
    rw [this, if_pos rfl, Nat.zero_add]
  ·show kn st t.1 = true
   have hz' : t.2.countP (unk st) + 0 = 0 := hz
   rcases key r t ht with h1 | ⟨rfl, rfl⟩
   ·exact h.cx.zero r t h1 (by simpa using hz')
   ·exact hz0 (by rw [← hcl]; exact hz')
 have hok1 : Wok m { st with asked := askS st st.rules.length l, rules := st.rules ++ [((l.length : Int), x)] } := by
  refine ⟨(askS_len _ _ _).trans h.cx.ok.al, h.cx.ok.kl, fun r hr => ?_, ?_, h.cx.ok.nx, h.cx.ok.nl⟩
  ·rcases List.mem_append.1 hr with hr | hr
   ·exact h.cx.ok.th r hr
   ·rw [List.mem_singleton] at hr; rw [hr]; exact hx
  ·exact ask_mem l st.asked _ (fun r hr y hy => by have := h.cx.ok.rl r hr y hy; simp; omega) (by simp)
 unfold ruleS
 simp only
 by_cases h0 : l.length = 0
 ·rw [if_pos h0]
  have hn : l = [] := List.length_eq_zero_iff.1 h0
  subst hn
  -- learn in the old state first
  have hd : Der (R ++ [(x, [])]) S x := .rule (r := (x, [])) (by simp) (fun y hy => by cases hy)
  have hkl : x < st.known.length := by rw [h.cx.ok.kl]; exact hx
  have h1 : Ly m R (fun y => S y ∨ y = x) st := ⟨⟨h.cx.ok, h.cx.len, h.cx.lt, h.cx.br, h.cx.bx, h.cx.rule, h.cx.asked, h.cx.zero, fun y hy => (h.cx.sound y hy).mono (fun r hr => hr) (fun z hz => .seen (.inl hz)), h.cx.nxk, h.cx.nd⟩, h.un⟩
  have h2 := h1.cx.learn hx (.seen (.inr rfl))
  have hu := unk_learn st x hkl
  have hkx : kn (learnS st x) x = true := by rw [kn_learn st x _ hkl]; simp
  obtain ⟨e1, e2⟩ := learnS_rules st x
  have hs : learnS { st with asked := askS st st.rules.length [], rules := st.rules ++ [(((([] : List Nat).length : Nat) : Int), x)] } x = { learnS st x with asked := askS st st.rules.length [], rules := st.rules ++ [(((([] : List Nat).length : Nat) : Int), x)] } := by
   unfold learnS
   split <;> rfl
  rw [hs]
  have hok3 := hok
  unfold ruleS at hok3
  simp only [List.length_nil, if_true] at hok3
  rw [show ((0 : Nat) : Int) = (((([] : List Nat).length : Nat) : Int)) from rfl, hs] at hok3
  refine ⟨⟨hok3, by show (st.rules ++ [_]).length = _; simp [h.cx.len], fun t ht => ?_, fun t ht => ?_, fun r => by simp, fun r t ht => ?_, fun y r t hy ht => ?_, fun r t ht hz => ?_, fun y hy => ?_, h2.nxk, h2.nd⟩, fun y => by show unk (learnS st x) y = true; rw [hu]; exact h.un y⟩
  ·rcases List.mem_append.1 ht with ht | ht
   ·exact h.cx.lt t ht
   ·rw [List.mem_singleton.1 ht]; exact hx
  ·rcases List.mem_append.1 ht with ht | ht
   ·exact h.cx.br t ht
   ·rw [List.mem_singleton.1 ht]; exact hb
  ·show (st.rules ++ [_])[r]? = some (((t.2.countP (unk (learnS st x)) + 0 : Nat) : Int), t.1)
   rw [hu]
   rcases key r t ht with h1 | ⟨rfl, rfl⟩
   ·have hr : r < R.length := (List.getElem?_eq_some_iff.1 h1).1
    rw [List.getElem?_append_left (by rw [h.cx.len]; exact hr)]
    simpa using h.cx.rule r t h1
   ·rw [List.getElem?_append_right (by rw [h.cx.len]; exact Nat.le_refl _), h.cx.len, Nat.sub_self]
    simp
  ·show (st.asked.getD y []).count r = _
   rcases key r t ht with h1 | ⟨rfl, rfl⟩
   ·exact h.cx.asked y r t hy h1
   ·have hay : y < st.asked.length := by rw [h.cx.ok.al]; exact hy
    have hm : st.asked.getD y [] ∈ st.asked := by rw [List.getD_eq_getElem?_getD, List.getElem?_eq_getElem hay]; exact List.getElem_mem hay
    exact List.count_eq_zero.2 fun hq => by have := h.cx.ok.rl _ hm _ hq; rw [h.cx.len] at this; omega
  ·show kn (learnS st x) t.1 = true
   have hz' : t.2.countP (unk (learnS st x)) + 0 = 0 := hz
   rw [hu] at hz'
   rcases key r t ht with h1 | ⟨rfl, rfl⟩
   ·exact kn_learn_mono (h.cx.zero r t h1 (by simpa using hz'))
   ·exact hkx
  ·have hy' : kn (learnS st x) y = true := hy
   rw [kn_learn st x y hkl, Bool.or_eq_true] at hy'
   rcases hy' with hy' | hy'
   ·exact hmono y (h.cx.sound y hy')
   ·rw [of_decide_eq_true hy']; exact hd
 ·rw [if_neg h0]
  exact ⟨hmain hok1 (fun e => absurd e h0), h.un⟩
end Go.Proofs.YtihfeoanognonaaGreat

namespace Go.Proofs.YtihfeoanognonaaGreat
open Go.RowKit
def halfR (es : List Ent) (x a o : Nat) : List (Nat × List Nat) := match pubT es o with | some p => [(x, [a, p])] | none => []
def madeR (es : List Ent) (x k n : Nat) (ps : List Nat) : List (Nat × List Nat) :=
 if k = 4 then (if n = 0 then [(x, ps)] ++ halfR es x (ps.getD 0 0) (ps.getD 1 0) ++ halfR es x (ps.getD 1 0) (ps.getD 0 0) else [(x, ps)])
 else if k = 6 then [(x, ps)] ++ [(ps.getD 3 0, [x, ps.getD 0 0])]
 else if k = 7 then [(x, ps)] ++ [(ps.getD 1 0, [x])] else [(x, ps)]
def layR (es : List Ent) (x : Nat) : Ent → List (Nat × List Nat)
 | .nm _ => []
 | .dt s => [(x, wth es.length s)] ++ (wth es.length s).map fun y => (y, [x])
 | .mk k n _ ps _ => madeR es x k n ps
def RS (es : List Ent) : Nat → List (Nat × List Nat)
 | 0 => []
 | i + 1 => RS es i ++ (match es[i]? with | some e => layR es i e | none => [])
section
variable {es : List Ent} {R : List (Nat × List Nat)} {S : Nat → Prop} {st : St}
theorem Ly.half (h : Ly es.length R S st) {x a : Nat} (hx : x < es.length) (ha : a < es.length) (o : Nat) : Ly es.length (R ++ halfR es x a o) S (halfS es st x a o) := by
 unfold halfR halfS
 cases hp : pubT es o with
 | none => simpa using h
 | some p => exact h.rule hx [a, p] (fun y hy => by
   rcases List.mem_cons.1 hy with rfl | hy
   ·exact ha
   ·rw [List.mem_singleton.1 hy]; exact pubT_lt hp) (by simp)
theorem Ly.each (h : Ly es.length R S st) {x : Nat} (hx : x < es.length) : ∀ (l : List Nat), (∀ y ∈ l, y < es.length) → ∀ R st, Ly es.length R S st → Ly es.length (R ++ l.map fun y => (y, [x])) S (l.foldl (fun st y => ruleS st y [x]) st)
 | [], _, R, st, h => by simpa using h
 | y :: l, hl, R, st, h' => by
  have h1 := h'.rule (hl y (List.mem_cons_self ..)) [x] (fun z hz => by rw [List.mem_singleton.1 hz]; exact hx) (by simp)
  have := Ly.each h hx l (fun z hz => hl z (List.mem_cons_of_mem _ hz)) _ _ h1
  simpa using this
theorem gD_lt {ps : List Nat} {m j : Nat} (h : ∀ x ∈ ps, x < m) (hj : j < ps.length) : ps.getD j 0 < m := by
 rw [List.getD_eq_getElem?_getD, List.getElem?_eq_getElem hj]; exact h _ (List.getElem_mem hj)
theorem Ly.lay (h : Ly es.length R S st) (hwf : Wf es) (hwg : Wg es) (hm : es.length ≤ 400) {x : Nat} {e : Ent} (he : es[x]? = some e) : Ly es.length (R ++ layR es x e) S (layS es st x e) := by
 have hx : x < es.length := (List.getElem?_eq_some_iff.1 he).1
 cases e with
 | nm n => simpa [layR, layS] using h
 | dt s =>
  have h1 := h.rule hx (wth es.length s) (wth_lt es.length s) (by have := wth_len es.length s; omega)
  have := Ly.each h hx (wth es.length s) (wth_lt es.length s) _ _ h1
  simpa [layR, layS] using this
 | mk k n s ps b =>
  have hlt := hwg.lt x k n s ps b he
  have hlen := hwf.len x k n s ps b he
  have h1 := h.rule hx ps hlt (by omega)
  show Ly es.length (R ++ madeR es x k n ps) S (madeS es st x k n ps)
  unfold madeR madeS
  by_cases h4 : k = 4
  ·rw [if_pos h4, if_pos h4]
   subst h4
   have h2 := hwg.two x n s ps b he
   by_cases hn : n = 0
   ·rw [if_pos hn, if_pos hn]
    have := (h1.half hx (gD_lt hlt (j := 0) (by omega)) (ps.getD 1 0)).half hx (gD_lt hlt (j := 1) (by omega)) (ps.getD 0 0)
    rw [List.append_assoc, List.append_assoc] at this
    rw [List.append_assoc]
    exact this
   ·rw [if_neg hn, if_neg hn]; exact h1
  ·rw [if_neg h4, if_neg h4]
   by_cases h6 : k = 6
   ·rw [if_pos h6, if_pos h6]
    subst h6
    have h2 := hwg.four x n s ps b he
    have := h1.rule (gD_lt hlt (j := 3) (by omega)) [x, ps.getD 0 0] (fun y hy => by
     rcases List.mem_cons.1 hy with rfl | hy
     ·exact hx
     ·rw [List.mem_singleton.1 hy]; exact gD_lt hlt (j := 0) (by omega)) (by simp)
    rw [List.append_assoc] at this
    exact this
   ·rw [if_neg h6, if_neg h6]
    by_cases h7 : k = 7
    ·rw [if_pos h7, if_pos h7]
     subst h7
     have h2 := hwg.sig x n s ps b he
     have := h1.rule (gD_lt hlt (j := 1) (by omega)) [x] (fun y hy => by rw [List.mem_singleton.1 hy]; exact hx) (by simp)
     rw [List.append_assoc] at this
     exact this
    ·rw [if_neg h7, if_neg h7]; exact h1
theorem ly00 (m : Nat) : Ly m [] S (st00 m) := by
 have hk : ∀ x, kn (st00 m) x = false := fun x => by
  unfold kn st00
  rw [List.getD_eq_getElem?_getD, List.getElem?_replicate]
  split <;> rfl
 refine ⟨⟨st00_ok m, rfl, (fun t ht => by cases ht), (fun t ht => by cases ht), (fun r => by simp), (fun r t ht => by simp at ht), (fun y r t _ ht => by simp at ht), (fun r t ht => by simp at ht), (fun x hx => by rw [hk x] at hx; cases hx), (fun x hx => by cases hx), List.nodup_nil⟩, fun y => by unfold unk; rw [hk y]; rfl⟩
theorem Ly.all (hwf : Wf es) (hwg : Wg es) (hm : es.length ≤ 400) : ∀ i, i ≤ es.length → Ly es.length (RS es i) S (layK es i)
 | 0, _ => ly00 _
 | i + 1, hi => by
  have h := Ly.all hwf hwg hm i (by omega)
  have he : es[i]? = some (es[i]'(by omega)) := List.getElem?_eq_getElem (by omega)
  have := h.lay hwf hwg hm he
  rw [RS, layK, he]
  exact this
theorem Cx.learns {m : Nat} : ∀ (l : List Nat) (st : St), Cx m R S [] st → (∀ x ∈ l, x < m ∧ S x) → Cx m R S [] (l.foldl learnS st) ∧ (∀ y, kn st y = true → kn (l.foldl learnS st) y = true) ∧ ∀ y ∈ l, kn (l.foldl learnS st) y = true
 | [], st, h, _ => ⟨h, fun _ hy => hy, (fun _ hy => by cases hy)⟩
 | x :: l, st, h, hl => by
  obtain ⟨hx, hs⟩ := hl x (List.mem_cons_self ..)
  have h1 := h.learn hx (.seen hs)
  obtain ⟨h2, h3, h4⟩ := Cx.learns l _ h1 (fun y hy => hl y (List.mem_cons_of_mem _ hy))
  refine ⟨h2, fun y hy => h3 y (kn_learn_mono hy), fun y hy => ?_⟩
  rcases List.mem_cons.1 hy with rfl | hy
  ·exact h3 _ (by rw [kn_learn st y y (by rw [h.ok.kl]; exact hx)]; simp)
  ·exact h4 y hy
theorem Cx.seens : ∀ (ss : List ByteArray) (st : St), Cx es.length R S [] st → (∀ s ∈ ss, ∀ x ∈ wth es.length s, S x) → Cx es.length R S [] (ss.foldl (fun st s => (wth es.length s).foldl learnS st) st) ∧ (∀ y, kn st y = true → kn (ss.foldl (fun st s => (wth es.length s).foldl learnS st) st) y = true) ∧ ∀ s ∈ ss, ∀ x ∈ wth es.length s, kn (ss.foldl (fun st s => (wth es.length s).foldl learnS st) st) x = true
 | [], st, h, _ => ⟨h, fun _ hy => hy, (fun _ hy => by cases hy)⟩
 | s :: ss, st, h, hl => by
  obtain ⟨h1, h2, h3⟩ := Cx.learns (wth es.length s) st h (fun x hx => ⟨wth_lt _ _ x hx, hl s (List.mem_cons_self ..) x hx⟩)
  obtain ⟨h4, h5, h6⟩ := Cx.seens ss _ h1 (fun t ht => hl t (List.mem_cons_of_mem _ ht))
  refine ⟨h4, fun y hy => h5 y (h2 y hy), fun t ht x hx => ?_⟩
  rcases List.mem_cons.1 ht with rfl | ht
  ·exact h5 x (h3 x hx)
  ·exact h6 t ht x hx
end
def Sn (es : List Ent) (ss : List ByteArray) (x : Nat) : Prop := ∃ s ∈ ss, x ∈ wth es.length s
theorem known_der {es : List Ent} (hwf : Wf es) (hwg : Wg es) (hm : es.length ≤ 400) (ss : List ByteArray) (x : Nat) : (knownF es ss).getD x false = true ↔ Der (RS es es.length) (Sn es ss) x := by
 have h0 := (Ly.all (S := Sn es ss) hwf hwg hm es.length (Nat.le_refl _)).cx
 obtain ⟨h1, _, h3⟩ := Cx.seens ss _ h0 (fun s hs _ hx => ⟨s, hs, hx⟩)
 have := Cx.end h1 (fun x ⟨s, hs, hx⟩ => h3 s hs x hx) x
 unfold knownF seenK
 rw [List.take_length]
 exact this
/-! more texts, no less; known texts, no more -/
section
variable {es : List Ent} (hwf : Wf es) (hwg : Wg es) (hm : es.length ≤ 400)
include hwf hwg hm
end
end Go.Proofs.YtihfeoanognonaaGreat

namespace Go.Proofs.YtihfeoanognonaaGreat
open Go.RowKit
theorem mem_RS {es : List Ent} {r : Nat × List Nat} : ∀ i, r ∈ RS es i ↔ ∃ j, j < i ∧ ∃ e, es[j]? = some e ∧ r ∈ layR es j e
 | 0 => by simp [RS]
 | i + 1 => by
  rw [RS, List.mem_append, mem_RS i]
  constructor
  ·rintro (⟨j, h1, h2⟩ | h)
   ·exact ⟨j, by omega, h2⟩
   ·cases he : es[i]? with
    | none => rw [he] at h; cases h
    | some e => rw [he] at h; exact ⟨i, by omega, e, he, h⟩
  ·rintro ⟨j, h1, e, h2, h3⟩
   rcases Nat.lt_or_ge j i with hj | hj
   ·exact .inl ⟨j, hj, e, h2, h3⟩
   ·have : j = i := by omega
    subst this
    right
    rw [h2]
    exact h3
def kB (K : List Bool) (x : Nat) : Bool := K.getD x false
def halfB (es : List Ent) (K : List Bool) (a b : Nat) : Bool := kB K a && (kB K b || (match pubT es b with | some p => kB K p | none => false))
def madeM (es : List Ent) (K : List Bool) (k n : Nat) (ps : List Nat) : Bool := if k = 4 ∧ n = 0 then halfB es K (ps.getD 0 0) (ps.getD 1 0) || halfB es K (ps.getD 1 0) (ps.getD 0 0) else ps.all (kB K)
def outM (K : List Bool) (k : Nat) (ps : List Nat) : List Nat := if k = 6 ∧ kB K (ps.getD 0 0) = true then [ps.getD 3 0] else if k = 7 then [ps.getD 1 0] else []
def madeB (es : List Ent) (K : List Bool) : Ent → Bool
 | .nm _ => false
 | .dt s => (wth es.length s).all (kB K)
 | .mk k n _ ps _ => madeM es K k n ps
def outB (es : List Ent) (K : List Bool) : Ent → List Nat
 | .nm _ => []
 | .dt s => wth es.length s
 | .mk k _ _ ps _ => outM K k ps
section
variable {es : List Ent} {S : Nat → Prop} {K : List Bool}
theorem Der.lay {x : Nat} {e : Ent} (he : es[x]? = some e) {r : Nat × List Nat} (hr : r ∈ layR es x e) (h : ∀ y ∈ r.2, Der (RS es es.length) S y) : Der (RS es es.length) S r.1 :=
 .rule ((mem_RS _).2 ⟨x, (List.getElem?_eq_some_iff.1 he).1, e, he, hr⟩) h
theorem two_gD {ps : List Nat} (h : ps.length = 2) : ps = [ps.getD 0 0, ps.getD 1 0] := by
 match ps, h with
 | [a, b], _ => rfl
theorem mk_rule (es : List Ent) (x k n : Nat) (s : ByteArray) (ps : List Nat) (b : Nat) : (x, ps) ∈ layR es x (.mk k n s ps b) := by
 show _ ∈ madeR es x k n ps
 unfold madeR
 split
 ·split <;> simp
 ·split
  ·simp
  ·split <;> simp
theorem half_rule {x n b p : Nat} {s : ByteArray} {ps : List Nat} (hn : n = 0) {a o : Nat} (hao : (a = ps.getD 0 0 ∧ o = ps.getD 1 0) ∨ (a = ps.getD 1 0 ∧ o = ps.getD 0 0)) (hp : pubT es o = some p) : (x, [a, p]) ∈ layR es x (.mk 4 n s ps b) := by
 show _ ∈ madeR es x 4 n ps
 unfold madeR
 rw [if_pos rfl, if_pos hn]
 rcases hao with ⟨rfl, rfl⟩ | ⟨rfl, rfl⟩
 ·refine List.mem_append_left _ (List.mem_append_right _ ?_)
  unfold halfR; rw [hp]; simp
 ·refine List.mem_append_right _ ?_
  unfold halfR; rw [hp]; simp
theorem madeD (hwg : Wg es) (hK : ∀ y, kB K y = true → Der (RS es es.length) S y) {x : Nat} {e : Ent} (he : es[x]? = some e) (h : madeB es K e = true) : Der (RS es es.length) S x := by
 cases e with
 | nm n => cases h
 | dt s =>
  refine Der.lay (r := (x, wth es.length s)) he (by simp [layR]) (fun y hy => hK y ?_)
  exact List.all_eq_true.1 h y hy
 | mk k n s ps b =>
  change madeM es K k n ps = true at h
  unfold madeM at h
  have hall : ps.all (kB K) = true → Der (RS es es.length) S x := fun h => Der.lay (r := (x, ps)) he (mk_rule es x k n s ps b) (fun y hy => hK y (List.all_eq_true.1 h y hy))
  split at h
  ·rename_i hc
   obtain ⟨rfl, hn⟩ := hc
   have h2 := hwg.two x n s ps b he
   have hf : ∀ a o, ((a = ps.getD 0 0 ∧ o = ps.getD 1 0) ∨ (a = ps.getD 1 0 ∧ o = ps.getD 0 0)) → halfB es K a o = true → Der (RS es es.length) S x := by
    intro a o hao hh
    unfold halfB at hh
    rw [Bool.and_eq_true, Bool.or_eq_true] at hh
    obtain ⟨h3, h4 | h4⟩ := hh
    ·refine hall (List.all_eq_true.2 fun y hy => ?_)
     rw [two_gD h2] at hy
     rcases hao with ⟨rfl, rfl⟩ | ⟨rfl, rfl⟩
     ·rcases List.mem_cons.1 hy with rfl | hy
      ·exact h3
      ·rw [List.mem_singleton.1 hy]; exact h4
     ·rcases List.mem_cons.1 hy with rfl | hy
      ·exact h4
      ·rw [List.mem_singleton.1 hy]; exact h3
    ·cases hp : pubT es o with
     | none => rw [hp] at h4; cases h4
     | some p =>
      rw [hp] at h4
      refine Der.lay (r := (x, [a, p])) he (half_rule hn hao hp) (fun y hy => ?_)
      rcases List.mem_cons.1 hy with rfl | hy
      ·exact hK _ h3
      ·rw [List.mem_singleton.1 hy]; exact hK _ h4
   rw [Bool.or_eq_true] at h
   rcases h with h | h
   ·exact hf _ _ (.inl ⟨rfl, rfl⟩) h
   ·exact hf _ _ (.inr ⟨rfl, rfl⟩) h
  ·exact hall h
theorem outD (hK : ∀ y, kB K y = true → Der (RS es es.length) S y) {x : Nat} {e : Ent} (he : es[x]? = some e) (hx : kB K x = true) {y : Nat} (h : y ∈ outB es K e) : Der (RS es es.length) S y := by
 cases e with
 | nm n => cases h
 | dt s =>
  refine Der.lay (r := (y, [x])) he ?_ (fun z hz => by rw [List.mem_singleton.1 hz]; exact hK _ hx)
  exact List.mem_append_right _ (List.mem_map.2 ⟨y, h, rfl⟩)
 | mk k n s ps b =>
  change y ∈ outM K k ps at h
  unfold outM at h
  split at h
  ·rename_i hc
   obtain ⟨rfl, h0⟩ := hc
   rw [List.mem_singleton.1 h]
   refine Der.lay (r := (ps.getD 3 0, [x, ps.getD 0 0])) he ?_ (fun z hz => ?_)
   ·show _ ∈ madeR es x 6 n ps
    unfold madeR
    simp
   ·rcases List.mem_cons.1 hz with rfl | hz
    ·exact hK _ hx
    ·rw [List.mem_singleton.1 hz]; exact hK _ h0
  ·split at h
   ·rename_i h7
    subst h7
    rw [List.mem_singleton.1 h]
    refine Der.lay (r := (ps.getD 1 0, [x])) he ?_ (fun z hz => by rw [List.mem_singleton.1 hz]; exact hK _ hx)
    show _ ∈ madeR es x 7 n ps
    unfold madeR
    simp
   ·cases h
theorem closedD (hwg : Wg es) (hS : ∀ y, S y → kB K y = true) (hc : ∀ x e, es[x]? = some e → (madeB es K e = true → kB K x = true) ∧ (kB K x = true → ∀ y ∈ outB es K e, kB K y = true)) {x : Nat} (h : Der (RS es es.length) S x) : kB K x = true := by
 induction h with
 | seen h => exact hS _ h
 | @rule r hr _ ih =>
  obtain ⟨j, _, e, he, hr⟩ := (mem_RS _).1 hr
  obtain ⟨h1, h2⟩ := hc j e he
  cases e with
  | nm n => cases hr
  | dt s =>
   rcases List.mem_append.1 hr with hr | hr
   ·rw [List.mem_singleton.1 hr] at ih ⊢
    exact h1 (List.all_eq_true.2 ih)
   ·obtain ⟨y, hy, rfl⟩ := List.mem_map.1 hr
    exact h2 (ih j (by simp)) y hy
  | mk k n s ps b =>
   change r ∈ madeR es j k n ps at hr
   have hps : (∀ y ∈ ps, kB K y = true) → kB K j = true := by
    intro ha
    refine h1 ?_
    show madeM es K k n ps = true
    unfold madeM
    split
    ·rename_i hk
     obtain ⟨rfl, _⟩ := hk
     have h2 := hwg.two j n s ps b he
     have ha0 := ha (ps.getD 0 0) (by rw [List.getD_eq_getElem?_getD, List.getElem?_eq_getElem (by omega)]; exact List.getElem_mem _)
     have ha1 := ha (ps.getD 1 0) (by rw [List.getD_eq_getElem?_getD, List.getElem?_eq_getElem (by omega)]; exact List.getElem_mem _)
     unfold halfB
     rw [ha0, ha1]; rfl
    ·exact List.all_eq_true.2 ha
   have hhf : ∀ a o, k = 4 → n = 0 → ((a = ps.getD 0 0 ∧ o = ps.getD 1 0) ∨ (a = ps.getD 1 0 ∧ o = ps.getD 0 0)) → r ∈ halfR es j a o → kB K r.1 = true := by
    intro a o hk hn hao hr
    unfold halfR at hr
    cases hp : pubT es o with
    | none => rw [hp] at hr; cases hr
    | some p =>
     rw [hp] at hr
     rw [List.mem_singleton.1 hr] at ih ⊢
     have e1 := ih a (by simp)
     have e2 := ih p (by simp)
     refine h1 ?_
     have hh : halfB es K a o = true := by unfold halfB; rw [e1, hp]; simp [e2]
     show madeM es K k n ps = true
     unfold madeM
     rw [if_pos ⟨hk, hn⟩, Bool.or_eq_true]
     rcases hao with ⟨rfl, rfl⟩ | ⟨rfl, rfl⟩
     ·exact .inl hh
     ·exact .inr hh
   have hone : r = (j, ps) → kB K r.1 = true := fun e => by rw [e] at ih ⊢; exact hps ih
   unfold madeR at hr
   split at hr
   ·rename_i hk
    split at hr
    ·rename_i hn
     rcases List.mem_append.1 hr with hr | hr
     ·rcases List.mem_append.1 hr with hr | hr
      ·exact hone (List.mem_singleton.1 hr)
      ·exact hhf _ _ hk hn (.inl ⟨rfl, rfl⟩) hr
     ·exact hhf _ _ hk hn (.inr ⟨rfl, rfl⟩) hr
    ·exact hone (List.mem_singleton.1 hr)
   ·split at hr
    ·rename_i hk
     rcases List.mem_append.1 hr with hr | hr
     ·exact hone (List.mem_singleton.1 hr)
     ·rw [List.mem_singleton.1 hr] at ih ⊢
      refine h2 (ih j (by simp)) _ ?_
      show _ ∈ outM K k ps
      unfold outM
      rw [if_pos ⟨hk, ih _ (by simp)⟩]; simp
    ·split at hr
     ·rename_i hk
      rcases List.mem_append.1 hr with hr | hr
      ·exact hone (List.mem_singleton.1 hr)
      ·rw [List.mem_singleton.1 hr] at ih ⊢
       refine h2 (ih j (by simp)) _ ?_
       show _ ∈ outM K k ps
       unfold outM
       rw [if_neg (by omega), if_pos hk]; simp
     ·exact hone (List.mem_singleton.1 hr)
theorem refKnown (hwf : Wf es) (hwg : Wg es) (hm : es.length ≤ 400) {ss : List ByteArray} (hK : ∀ y, kB K y = true → Der (RS es es.length) (Sn es ss) y) (hS : ∀ y, Sn es ss y → kB K y = true) (hc : ∀ x e, es[x]? = some e → (madeB es K e = true → kB K x = true) ∧ (kB K x = true → ∀ y ∈ outB es K e, kB K y = true)) (x : Nat) : kB K x = (knownF es ss).getD x false := by
 rw [Bool.eq_iff_iff, known_der hwf hwg hm]
 exact ⟨hK x, closedD hwg hS hc⟩
end
end Go.Proofs.YtihfeoanognonaaGreat
