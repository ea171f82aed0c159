/-
  A drawn region in which some operations read a variable that the region writes later: those operations are moves, and whoever writes there waits for them.
-/
import Derived.Test.YthljhhhjdajfhaaGhost
namespace Go.Proofs.Ythljhhhjdajfhaa
open Go

def moved? (o : Oper) : Option Tmp :=
  match o.op, o.guard with
  | .move (.tmp t), none => some t
  | _, _ => none

def sureB2 (old : List Nat) (md : Region.Mode) (ops : Array Oper) : Bool :=
  (List.range ops.size).all fun i =>
    match ops[i]? with
    | none => true
    | some o => (o.after.all fun e => !Region.binds md e || decide (e.on < i)) &&
      if old.contains i then
        (match moved? o with
          | none => false
          | some t => (List.range ops.size).all fun j =>
            match ops[j]? with
            | none => true
            | some oj => oj.dst != some t || oj.after.any fun e => Region.binds md e && e.on == i)
      else
        (o.looksAt ops).all fun t => (List.range ops.size).all fun j =>
          match ops[j]? with
          | none => true
          | some oj => oj.dst != some t || o.after.any fun e => Region.binds md e && e.on == j

section
variable {P : Program} {ops : Array Oper} {Q : Exit → Act → World → Prop} {md : Region.Mode} {S : (Nat → Nat) → (Nat → Bool) → World → Prop} {F : (Nat → Nat) → Act} {old : List Nat} {a0 : Act}

theorem sureB2_at (h : sureB2 old md ops = true) {i : Nat} {o : Oper} (ho : ops[i]? = some o) : (∀ e ∈ o.after, Region.binds md e = true → e.on < i) ∧
    (old.contains i = true → ∃ t, moved? o = some t ∧ ∀ (j : Nat) (oj : Oper), ops[j]? = some oj → oj.dst = some t → ∃ e ∈ oj.after, Region.binds md e = true ∧ e.on = i) ∧
    (old.contains i = false → ∀ t ∈ o.looksAt ops, ∀ (j : Nat) (oj : Oper), ops[j]? = some oj → oj.dst = some t → ∃ e ∈ o.after, Region.binds md e = true ∧ e.on = j) := by
  have hlt : i < ops.size := (Array.getElem?_eq_some_iff.1 ho).1
  have h1 := (List.all_eq_true.1 h) i (List.mem_range.2 hlt)
  simp only [ho, Bool.and_eq_true] at h1
  refine ⟨fun e he hb => ?_, fun hc => ?_, fun hc t ht j oj hj hd => ?_⟩
  · have h2 := (Array.all_eq_true_iff_forall_mem.1 h1.1) e he
    simpa [hb] using h2
  · have h2 := h1.2
    rw [if_pos hc] at h2
    cases hm : moved? o with
    | none => rw [hm] at h2; cases h2
    | some t =>
      rw [hm] at h2
      refine ⟨t, rfl, fun j oj hj hd => ?_⟩
      have hltj : j < ops.size := (Array.getElem?_eq_some_iff.1 hj).1
      have h3 := (List.all_eq_true.1 h2) j (List.mem_range.2 hltj)
      simp only [hj, hd, bne_self_eq_false, Bool.false_or] at h3
      obtain ⟨k, hk, h4⟩ := Array.any_eq_true.1 h3
      rw [Bool.and_eq_true, beq_iff_eq] at h4
      exact ⟨_, Array.getElem_mem hk, h4⟩
  · have h2 := h1.2
    rw [if_neg (by rw [hc]; decide)] at h2
    have hltj : j < ops.size := (Array.getElem?_eq_some_iff.1 hj).1
    have h3 := (List.all_eq_true.1 ((List.all_eq_true.1 h2) t ht)) j (List.mem_range.2 hltj)
    simp only [hj, hd, bne_self_eq_false, Bool.false_or] at h3
    obtain ⟨k, hk, h4⟩ := Array.any_eq_true.1 h3
    rw [Bool.and_eq_true, beq_iff_eq] at h4
    exact ⟨_, Array.getElem_mem hk, h4⟩

/-- where nobody has written stands what stood there at first; who has come up has waited for all -/
structure Fresh (ops : Array Oper) (md : Region.Mode) (a0 : Act) (listed : Array Bool) (a : Act) : Prop where
  was : ∀ t, (∀ (j : Nat) (o : Oper), ops[j]? = some o → o.dst = some t → listed.getD j true = false) → a.tmps[t]? = a0.tmps[t]?
  closed : ∀ (j : Nat) (o : Oper), ops[j]? = some o → listed.getD j true = true → ∀ e ∈ o.after, Region.binds md e = true → listed.getD e.on true = true
theorem Fresh.put {listed : Array Bool} {a : Act} {i : Nat} {o : Oper} {v : Value} (h : Fresh ops md a0 listed a) (hsz : listed.size = ops.size) (ho : ops[i]? = some o) (hall : ∀ e ∈ o.after, Region.binds md e = true → listed.getD e.on false = true) :
    Fresh ops md a0 (listed.setIfInBounds i true) (a.put o.dst v) := by
  have hlt : i < listed.size := by rw [hsz]; exact (Array.getElem?_eq_some_iff.1 ho).1
  have mono : ∀ j, listed.getD j true = true → (listed.setIfInBounds i true).getD j true = true := fun j hj => by
    by_cases hij : i = j
    · subst hij; simp [hlt]
    · rw [getD_set_ne true hij]; exact hj
  refine ⟨fun t ht => ?_, fun j oj hj hl e he hb => ?_⟩
  · have hne : o.dst ≠ some t := fun hd => by
      have := ht i o ho hd
      simp [hlt] at this
    have h1 : a.tmps[t]? = a0.tmps[t]? := h.was t fun j oj hj hd => by
      have h2 := ht j oj hj hd
      by_cases hij : i = j
      · subst hij; simp [hlt] at h2
      · rwa [getD_set_ne true hij] at h2
    rw [← h1]
    cases hd : o.dst with
    | none => rfl
    | some d =>
      simp only [Act.put]
      exact Array.getElem?_setIfInBounds_ne (fun e => hne (by rw [hd, e]))
  · refine mono _ ?_
    by_cases hij : i = j
    · subst hij
      rw [ho] at hj
      cases hj
      exact getD_true_false (hall e he hb)
    · rw [getD_set_ne true hij] at hl
      exact h.closed j oj hj hl e he hb

/-- a move of what stood there at first -/
def OpOld (S : (Nat → Nat) → (Nat → Bool) → World → Prop) (F : (Nat → Nat) → Act) (a0 : Act) (i : Nat) (o : Oper) : Prop :=
  ∃ t d ty pos aft, o = ⟨some d, .move (.tmp t), ty, pos, aft, none⟩ ∧ (∀ g, (F g).put (some d) (a0.tmps.getD t undef) = F g) ∧ ∀ g d w, S g d w → S g (up d i true) w

theorem Agree.looks2 {listed : Array Bool} {a F : Act} {i : Nat} {o : Oper} (hc : sureB2 old md ops = true) (hn : old.contains i = false) (h : Agree ops F listed a) (ho : ops[i]? = some o)
    (hall : ∀ e ∈ o.after, Region.binds md e = true → listed.getD e.on false = true) : ∀ t ∈ o.looksAt ops, a.tmps[t]? = F.tmps[t]? := fun t ht =>
  h.2.2 t fun j oj hj hd => by
    obtain ⟨e, he, hb, rfl⟩ := (sureB2_at hc ho).2.2 hn t ht j oj hj hd
    exact getD_true_false (hall e he hb)

theorem OpGhost.wpOp2 (hc : sureB2 old md ops = true) (hsel : Region.noSelect ops = true) (hQ : ∀ g c ts w, Q (.panic c) (F g) w → Q (.panic c) ⟨ts, (F g).defers⟩ w)
    {listed : Array Bool} {a : Act} {w : World} {g : Nat → Nat} {i : Nat} {o : Oper} (hn : old.contains i = false) (hsz : listed.size = ops.size) (hf : Fresh ops md a0 listed a) (hg : Agree ops (F g) listed a) (ho : ops[i]? = some o) (hi : listed.getD i true = false)
    (hall : ∀ e ∈ o.after, Region.binds md e = true → listed.getD e.on false = true) (hS : S g (dn listed) w) (h : OpGhost P md ops Q S F i o) {K : Act → World → Prop}
    (hK : ∀ g' a' w', Fresh ops md a0 (listed.setIfInBounds i true) a' → Agree ops (F g') (listed.setIfInBounds i true) a' → S g' (dn (listed.setIfInBounds i true)) w' → K a' w') : Go.wpOp P ops Q i K a w := by
  have hl := hg.looks2 hc hn ho hall
  have he := exec_agree (fun cs b => Region.noSelect_spec hsel i o cs b ho) hl
  have hw := wanted_agree hl
  have hQ' : ∀ c w, Q (.panic c) (F g) w → Q (.panic c) a w := fun c w h => by
    have : a = ⟨a.tmps, (F g).defers⟩ := by cases a; simp only [Act.mk.injEq, true_and]; exact hg.1
    rw [this]
    exact hQ g c _ w h
  have fin : ∀ v w', (∃ n, (F g).put o.dst v = F (up g i n) ∧ S (up g i n) (up (dn listed) i true) w') → K (a.put o.dst v) w' := fun v w' ⟨n, hp, hs⟩ => hK _ _ _ (hf.put hsz ho hall) (hg.put2 ho hp) (by rw [dn_set]; exact hs)
  have h := h g (dn listed) w hS hi (fun e he hb => getD_true_false (hall e he hb))
  unfold Go.wpOp
  simp only [ho, hw]
  split
  · rename_i hwt
    simp only [hwt, if_true] at h
    refine .inl ?_
    unfold Oper.wp at h ⊢
    rw [he]
    generalize (execOp (F g).eval o).run P w = r at h ⊢
    cases r with
    | ok n w' =>
      cases n <;> simp only [Oper.upon] at h ⊢
      case value u => exact fin _ _ h
      case skip => exact fin _ _ h
      case defer d =>
        obtain ⟨m, h1, h2⟩ := h
        refine hK _ _ _ (?_ : Fresh ops md a0 _ (Act.put { a with defers := d :: a.defers } _ _)) ?_ (by rw [dn_set]; exact h2)
        · have hb : Fresh ops md a0 listed { a with defers := d :: a.defers } := ⟨hf.was, hf.closed⟩
          exact hb.put hsz ho hall
        · have hb : Agree ops { F g with defers := d :: (F g).defers } listed { a with defers := d :: a.defers } := ⟨by rw [hg.1], hg.2.1, hg.2.2⟩
          exact hb.put2 ho h1
      case enter f args =>
        refine Calls.mono h fun e w'' he => ?_
        cases e with
        | returned u => exact fin _ _ he
        | panicked c => exact hQ' _ _ he
        | outgrown => exact he
      case row row args => exact Rows.mono h fun u w'' he => fin _ _ he
    | halt x w' =>
      cases x <;> simp only [Oper.upon] at h ⊢
      case panic u => exact hQ' _ _ h
  · rename_i hwt
    simp only [hwt] at h
    exact fin _ _ ⟨g i, by rw [up_self]; exact h⟩

theorem OpOld.wpOp {listed : Array Bool} {a : Act} {w : World} {g : Nat → Nat} {i : Nat} {o : Oper} (hc : sureB2 old md ops = true) (hn : old.contains i = true) (hsz : listed.size = ops.size) (hf : Fresh ops md a0 listed a) (hg : Agree ops (F g) listed a) (ho : ops[i]? = some o) (hi : listed.getD i true = false)
    (hall : ∀ e ∈ o.after, Region.binds md e = true → listed.getD e.on false = true) (hS : S g (dn listed) w) (h : OpOld S F a0 i o) {K : Act → World → Prop}
    (hK : ∀ g' a' w', Fresh ops md a0 (listed.setIfInBounds i true) a' → Agree ops (F g') (listed.setIfInBounds i true) a' → S g' (dn (listed.setIfInBounds i true)) w' → K a' w') : Go.wpOp P ops Q i K a w := by
  obtain ⟨t, d, ty, pos, aft, rfl, hp, hs⟩ := h
  obtain ⟨t', ht', hwr⟩ := (sureB2_at hc ho).2.1 hn
  obtain rfl : t = t' := Option.some.inj ht'
  have hw : a.tmps[t]? = a0.tmps[t]? := hf.was t fun j oj hj hd => by
    obtain ⟨e, he, hb, rfl⟩ := hwr j oj hj hd
    cases hl : listed.getD j true with
    | false => rfl
    | true => rw [hf.closed j oj hj hl e he hb] at hi; cases hi
  have hv : a.eval (.tmp t) = a0.tmps.getD t undef := by simp only [Act.eval, Array.getD_eq_getD_getElem?, hw]
  have e : (execOp a.eval ⟨some d, .move (.tmp t), ty, pos, aft, none⟩).run P w = .ok (.value (a0.tmps.getD t undef)) w := by rw [← hv]; rfl
  unfold Go.wpOp
  simp only [ho]
  have hwt : Region.wanted ⟨some d, .move (.tmp t), ty, pos, aft, none⟩ (yielded ops a.tmps) = true := rfl
  rw [if_pos hwt]
  refine .inl ?_
  unfold Oper.wp
  rw [e]
  exact hK g _ _ (hf.put hsz ho hall) (hg.put2 ho (hp g)) (by rw [dn_set]; exact hs _ _ _ hS)

theorem all_of_none2 (hc : sureB2 old md ops = true) {listed : Array Bool} (hsz : listed.size = ops.size) (hr : Region.ready md ops listed = []) : ∀ i, listed.getD i true = true := by
  intro i
  induction i using Nat.strongRecOn with
  | ind i ih =>
    cases h : listed.getD i true with
    | true => rfl
    | false =>
      have hlt : i < listed.size := by
        rcases Nat.lt_or_ge i listed.size with h' | h'
        · exact h'
        · simp [Array.getElem?_eq_none h'] at h
      have ho : ops[i]? = some (ops[i]'(by omega)) := Array.getElem?_eq_getElem (by omega)
      have : i ∈ Region.ready md ops listed := mem_ready.2 ⟨h, _, ho, fun e he hb => by
        have hlt' := (sureB2_at hc ho).1 e he hb
        have h1 := ih e.on hlt'
        have h2 : e.on < listed.size := by omega
        simpa [h2] using h1⟩
      rw [hr] at this
      cases this

theorem wpAny_ghost2 (hc : sureB2 old md ops = true) (hsel : Region.noSelect ops = true) (hQ : ∀ g c ts w, Q (.panic c) (F g) w → Q (.panic c) ⟨ts, (F g).defers⟩ w)
    (hop : ∀ i o, ops[i]? = some o → (old.contains i = false ∧ OpGhost P md ops Q S F i o) ∨ (old.contains i = true ∧ OpOld S F a0 i o)) (hend : ∀ g w, S g (fun _ => true) w → Q .normal (F g) w) :
    ∀ (fuel : Nat) (listed : Array Bool) (g : Nat → Nat) (a : Act) (w : World), left ops.size listed ≤ fuel → listed.size = ops.size →
      Fresh ops md a0 listed a → Agree ops (F g) listed a → S g (dn listed) w → wpAny P md ops Q fuel listed a w := by
  have fin : ∀ (listed : Array Bool) (g : Nat → Nat) (a : Act) (w : World), listed.size = ops.size → Agree ops (F g) listed a → S g (dn listed) w → Region.ready md ops listed = [] → Q .normal a w := fun listed g a w hsz hg hS hr => by
    have hall := all_of_none2 hc hsz hr
    rw [agree_all hg hall]
    have : dn listed = fun _ => true := funext hall
    rw [this] at hS
    exact hend g w hS
  intro fuel
  induction fuel with
  | zero =>
    intro listed g a w hf hsz hfr hg hS
    have hr : Region.ready md ops listed = [] := by
      cases hr : Region.ready md ops listed with
      | nil => rfl
      | cons i l =>
        have hi : i ∈ Region.ready md ops listed := by rw [hr]; exact .head _
        obtain ⟨h1, o, ho, _⟩ := mem_ready.1 hi
        have := left_set h1 (Array.getElem?_eq_some_iff.1 ho).1
        omega
    exact ⟨hr, fin listed g a w hsz hg hS hr⟩
  | succ fuel ih =>
    intro listed g a w hf hsz hfr hg hS
    refine ⟨fin listed g a w hsz hg hS, fun i hi => ?_⟩
    obtain ⟨h1, o, ho, hall⟩ := mem_ready.1 hi
    have hlt := left_set h1 (Array.getElem?_eq_some_iff.1 ho).1
    rcases hop i o ho with ⟨hn, h⟩ | ⟨hn, h⟩
    · exact OpGhost.wpOp2 hc hsel hQ hn hsz hfr hg ho h1 hall hS h fun g' a' w' hfr' hg' hS' => ih _ g' _ _ (by omega) (by simpa using hsz) hfr' hg' hS'
    · exact OpOld.wpOp hc hn hsz hfr hg ho h1 hall hS h fun g' a' w' hfr' hg' hS' => ih _ g' _ _ (by omega) (by simpa using hsz) hfr' hg' hS'

def AllGhost2 (P : Program) (old : List Nat) (md : Region.Mode) (ops : Array Oper) (Q : Exit → Act → World → Prop) (S : (Nat → Nat) → (Nat → Bool) → World → Prop) (F : (Nat → Nat) → Act) (a0 : Act) : Nat → List Oper → Prop
  | _, [] => True
  | i, o :: os => ((old.contains i = false ∧ OpGhost P md ops Q S F i o) ∨ (old.contains i = true ∧ OpOld S F a0 i o)) ∧ AllGhost2 P old md ops Q S F a0 (i + 1) os
theorem AllGhost2.nil {i : Nat} : AllGhost2 P old md ops Q S F a0 i [] := trivial
theorem AllGhost2.cons {i : Nat} {o : Oper} {os : List Oper} (hn : old.contains i = false) (h : OpGhost P md ops Q S F i o) (hs : AllGhost2 P old md ops Q S F a0 (i + 1) os) : AllGhost2 P old md ops Q S F a0 i (o :: os) := ⟨.inl ⟨hn, h⟩, hs⟩
theorem AllGhost2.was {i t d : Nat} {ty : TypeId} {pos : String} {aft : Array Edge} {os : List Oper} (hn : old.contains i = true) (hp : ∀ g, (F g).put (some d) (a0.tmps.getD t undef) = F g) (h : ∀ g d w, S g d w → S g (up d i true) w)
    (hs : AllGhost2 P old md ops Q S F a0 (i + 1) os) : AllGhost2 P old md ops Q S F a0 i (⟨some d, .move (.tmp t), ty, pos, aft, none⟩ :: os) := ⟨.inr ⟨hn, t, d, ty, pos, aft, rfl, hp, h⟩, hs⟩
theorem AllGhost2.get : ∀ {os : List Oper} {k : Nat}, AllGhost2 P old md ops Q S F a0 k os → ∀ i o, os[i]? = some o → (old.contains (k + i) = false ∧ OpGhost P md ops Q S F (k + i) o) ∨ (old.contains (k + i) = true ∧ OpOld S F a0 (k + i) o) := by
  intro os
  induction os with
  | nil => intro k _ i o ho; simp at ho
  | cons x xs ih =>
    intro k h i o ho
    cases i with
    | zero => obtain rfl : x = o := by simpa using ho
              exact h.1
    | succ i =>
      have := ih h.2 i o (by simpa using ho)
      rwa [Nat.add_right_comm, Nat.add_assoc] at this

theorem wp_region_old {id : Nat} {a : Act} {w : World} (old : List Nat) (F : (Nat → Nat) → Act) (S : (Nat → Nat) → (Nat → Bool) → World → Prop) (vs : List Value) (hm : P.follows .mixedOrders = true) (hc : sureB2 old .any ops = true) (hsel : Region.noSelect ops = true)
    (hF : putAll ops.toList vs a = F (fun _ => 0)) (hQ : ∀ g c ts w, Q (.panic c) (F g) w → Q (.panic c) ⟨ts, (F g).defers⟩ w) (hS : ∀ d : Nat → Bool, (∀ j, j < ops.size → d j = false) → S (fun _ => 0) d w.drew)
    (hop : AllGhost2 P old .any ops Q S F a 0 ops.toList) (hend : ∀ g w, S g (fun _ => true) w → Q .normal (F g) w) :
    (Code.region id ops true).wp P Q a w :=
  wp_region_any hm (wpAny_ghost2 (a0 := a) hc hsel hQ (fun i o ho => by have := hop.get i o (by rw [Array.getElem?_toList]; exact ho); rwa [Nat.zero_add] at this) hend _ _ (fun _ => 0) _ _
    (Nat.le_trans (List.countP_le_length) (by simp)) (by simp) ⟨fun _ _ => rfl, fun j o hj hl => by
      have := (Array.getElem?_eq_some_iff.1 hj).1
      simp [this] at hl⟩ (agree_start hF) (hS _ fun j hj => by simp [dn, hj]))
end
end Go.Proofs.Ythljhhhjdajfhaa
