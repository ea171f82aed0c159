/-
  A region that draws its order: what only reads comes as soon as it can; behind a change whose forerunners are all that has read, what is held may be told anew.
-/
import Derived.Test.YtiogegoepgkjlaaGhost
import Derived.Below
namespace Go.Proofs.Ytiogegoepgkjlaa
open Go Go.RowKit

section
variable {P : Program} {ops : Array Oper} {Q : Exit → Act → World → Prop} {S : World → Prop} {J : Act → World → Prop}

/-- the same value whenever it comes -/
def QuietOp (P : Program) (S : World → Prop) (a : Act) (o : Oper) (v : Value) : Prop :=
  ∀ w1, S w1 → (execOp a.eval o).run P w1 = .ok (.value v) w1 ∨ ∃ f args, (execOp a.eval o).run P w1 = .ok (.enter f args) w1 ∧ Calls P f args w1 fun e w' => e = .returned v ∧ S w' ∧ Below w1.heap.size w1 w'
def aftB (o : Oper) (l : List Nat) : Bool := o.after.all fun e => !Region.binds .any e || l.contains e.on
def distB (ops : Array Oper) : Bool := (List.range ops.size).all fun i => (List.range ops.size).all fun j =>
  match ops[i]?, ops[j]? with
  | some x, some y => i == j || x.dst.isNone || x.dst != y.dst
  | _, _ => true
theorem distB_ne (h : distB ops = true) {i j : Nat} {x y : Oper} (hx : ops[i]? = some x) (hy : ops[j]? = some y) (hne : i ≠ j) {t : Tmp} (ht : x.dst = some t) : y.dst ≠ some t := fun e => by
  have hi := (Array.getElem?_eq_some_iff.1 hx).1
  have hj := (Array.getElem?_eq_some_iff.1 hy).1
  have h1 := (List.all_eq_true.1 ((List.all_eq_true.1 h) i (List.mem_range.2 hi))) j (List.mem_range.2 hj)
  simp only [hx, hy, ht, e] at h1
  simp [hne] at h1
theorem put_put (c : Act) (d : Option Tmp) (v : Value) : (c.put d v).put d v = c.put d v := by
  cases d with
  | none => rfl
  | some t => simp [Act.put]
theorem put_comm {c : Act} {d e : Option Tmp} {u v : Value} (h : ∀ t, d = some t → e ≠ some t) (hc : c.put d v = c) : (c.put e u).put d v = c.put e u := by
  cases d with
  | none => rfl
  | some t =>
    cases e with
    | none => exact hc
    | some s =>
      have hne : s ≠ t := fun e => h t rfl (by rw [e])
      have : (c.put (some s) u).put (some t) v = (c.put (some t) v).put (some s) u := by
        simp only [Act.put, Act.mk.injEq, and_true]
        exact Array.setIfInBounds_comm _ _ hne
      rw [this, hc]
theorem looks_put (hc : sureB .any ops = true) {i j : Nat} {x y : Oper} {l : List Nat} (hx : ops[i]? = some x) (hy : ops[j]? = some y) (hi : l.contains i = false) (hcl : aftB y l = true) (c : Act) (v : Value) :
    ∀ t ∈ y.looksAt ops, (c.put x.dst v).tmps[t]? = c.tmps[t]? := fun t ht => by
  cases hd : x.dst with
  | none => rfl
  | some d =>
    have hne : d ≠ t := fun e => by
      subst e
      obtain ⟨ed, he, hb, hon⟩ := sureB_looks hc hy ht hx hd
      have := (Array.all_eq_true_iff_forall_mem.1 hcl) ed he
      rw [hb, hon, hi] at this
      cases this
    simp only [Act.put]
    exact Array.getElem?_setIfInBounds_ne hne
def cntL (ops : Array Oper) (l : List Nat) : Nat := (List.range ops.size).countP fun j => !l.contains j
theorem cntL_cons {l : List Nat} {i n : Nat} {o : Oper} (ho : ops[i]? = some o) (hi : l.contains i = false) (h : cntL ops l = n + 1) : cntL ops (i :: l) = n := by
  have hlt : i < ops.size := (Array.getElem?_eq_some_iff.1 ho).1
  have e : ∀ m : Nat, (List.range m).countP (fun j => !l.contains j) = (List.range m).countP (fun j => !(i :: l).contains j) + (if i < m then 1 else 0) := by
    intro m
    induction m with
    | zero => simp
    | succ m ih =>
      rw [List.range_succ, List.countP_append, List.countP_append, ih]
      simp only [List.countP_singleton]
      by_cases hm : m = i
      · subst hm
        rw [hi]
        simp
      · have : (i :: l).contains m = l.contains m := by simp [hm]
        rw [this]
        by_cases h1 : i < m
        · have h2 : i < m + 1 := by omega
          simp only [h1, h2, if_true]; omega
        · have h2 : ¬ i < m + 1 := by omega
          simp only [h1, h2, if_false]; omega
  have := e ops.size
  unfold cntL at h ⊢
  rw [if_pos hlt] at this
  omega
theorem cntL_zero {l : List Nat} (h : cntL ops l = 0) {j : Nat} (hj : j < ops.size) : l.contains j = true := by
  unfold cntL at h
  rw [List.countP_eq_zero] at h
  have := h j (List.mem_range.2 hj)
  simpa using this

def Clos (ops : Array Oper) (l : List Nat) : Prop := ∀ j o, ops[j]? = some o → l.contains j = true → aftB o l = true

theorem aftB_cons {o : Oper} {l : List Nat} {i : Nat} (h : aftB o l = true) : aftB o (i :: l) = true := by
  refine Array.all_eq_true_iff_forall_mem.2 fun e he => ?_
  have := (Array.all_eq_true_iff_forall_mem.1 h) e he
  simp only [Bool.or_eq_true] at this ⊢
  exact this.imp id fun h => by simp only [List.contains_cons, Bool.or_eq_true]; exact .inr h
theorem Clos.cons {l : List Nat} {i : Nat} {o : Oper} (h : Clos ops l) (ho : ops[i]? = some o) (ha : aftB o l = true) : Clos ops (i :: l) := fun j x hx hj => by
  by_cases e : j = i
  · subst e
    rw [ho] at hx
    cases hx
    exact aftB_cons ha
  · exact aftB_cons (h j x hx (by simpa [e] using hj))
theorem Agree.moved {listed : Array Bool} {a c : Act} {i : Nat} {o : Oper} (v : Value) (h : Agree ops c listed a) (ho : ops[i]? = some o) (hi : listed.getD i true = false) : Agree ops (c.put o.dst v) listed a := by
  obtain ⟨h1, h2, h3⟩ := h
  cases hd : o.dst with
  | none => exact ⟨h1, h2, h3⟩
  | some d =>
    refine ⟨h1, by simp [Act.put, h2], fun t ht => ?_⟩
    have hne : d ≠ t := fun e => by
      subst e
      have := ht i o ho hd
      rw [this] at hi
      cases hi
    simp only [Act.put]
    rw [Array.getElem?_setIfInBounds_ne hne]
    exact h3 t ht

theorem getD_of_set {listed : Array Bool} {i j : Nat} (h : (listed.setIfInBounds i true).getD j true = false) : listed.getD j true = false := by
  by_cases e : i = j
  · subst e
    rcases Nat.lt_or_ge i listed.size with h' | h'
    · simp [h'] at h
    · simp [h'] at h
  · rwa [getD_set_ne true e] at h

def PureOp (P : Program) (a : Act) (o : Oper) (v : Value) : Prop := ∀ w1, (execOp a.eval o).run P w1 = .ok (.value v) w1
def QP (b : Bool) (P : Program) (S : World → Prop) (a : Act) (o : Oper) (v : Value) : Prop := if b = true then PureOp P a o v else QuietOp P S a o v
theorem QP.quiet {b : Bool} {a : Act} {o : Oper} {v : Value} (h : QP b P S a o v) : QuietOp P S a o v := by
  unfold QP at h
  split at h
  · exact fun w1 _ => .inl (h w1)
  · exact h
def onsOf (ops : Array Oper) (k : Nat) : List Nat := match ops[k]? with
  | some o => (o.after.toList.filter (Region.binds .any)).map (·.on)
  | none => []
def markA (ops : Array Oper) : Nat → List Nat → List Nat
  | 0, s => s
  | k + 1, s => markA ops k (if s.contains k then onsOf ops k ++ s else s)
/-- what has come, but what is the same in every world, lies ahead of i -/
def barB (ops : Array Oper) (i : Nat) (l lp : List Nat) : Bool := let s := markA ops ops.size (onsOf ops i); l.all fun j => lp.contains j || s.contains j
def WXq (P : Program) (ops : Array Oper) (J : Act → World → Prop) : Nat → (World → Prop) → List Nat → List Nat → Act → World → Prop
  | 0, S, _, _, a, w => ∀ w1, Below w.heap.size w w1 → S w1 → J a w1
  | n + 1, S, l, lp, a, w =>
    (∃ i o v b, ops[i]? = some o ∧ l.contains i = false ∧ aftB o l = true ∧ (if Region.wanted o (yielded ops a.tmps) = true then QP b P S a o v else v = undef) ∧ WXq P ops J n S (i :: l) (if b = true then i :: lp else lp) (a.put o.dst v) w) ∨
    (∀ i o, ops[i]? = some o → l.contains i = false → aftB o l = true → Region.wanted o (yielded ops a.tmps) = true ∧ ∀ w1, Below w.heap.size w w1 → S w1 →
      Oper.wp P o a w1 (fun a' w' => (∃ v, a' = a.put o.dst v) ∧ ∃ S', (barB ops i l lp = true ∨ S' = S) ∧ S' w' ∧ WXq P ops J n S' (i :: l) (i :: lp) a' w') (fun _ _ _ => False))
def ClosR (ops : Array Oper) (listed : Array Bool) : Prop := ∀ j o, ops[j]? = some o → listed.getD j false = true → ∀ e ∈ o.after, Region.binds .any e = true → listed.getD e.on false = true
theorem mark_ok {listed : Array Bool} (hc : ClosR ops listed) : ∀ (k : Nat) (s : List Nat), (∀ j ∈ s, listed.getD j false = true) → ∀ j ∈ markA ops k s, listed.getD j false = true
  | 0, s, h, j, hj => h j hj
  | k + 1, s, h, j, hj => by
    refine mark_ok hc k _ ?_ j hj
    intro m hm
    split at hm
    · rename_i hk
      rcases List.mem_append.1 hm with hm | hm
      · unfold onsOf at hm
        split at hm
        · rename_i o ho
          obtain ⟨e, he, rfl⟩ := List.mem_map.1 hm
          obtain ⟨h1, h2⟩ := List.mem_filter.1 he
          exact hc k o ho (h k (by simpa using hk)) e (by simpa using h1) h2
        · cases hm
      · exact h m hm
    · exact h m hm
def Pend (P : Program) (ops : Array Oper) (S : World → Prop) (l lp : List Nat) (c : Act) (listed : Array Bool) : Prop :=
  ∀ j o, ops[j]? = some o → l.contains j = true → listed.getD j true = false → ∃ v, c.put o.dst v = c ∧ (if Region.wanted o (yielded ops c.tmps) = true then QP (lp.contains j) P S c o v else v = undef)
theorem QP.agree (hsel : Region.noSelect ops = true) {b : Bool} {j : Nat} {x : Oper} {c c' : Act} {v : Value} (hx : ops[j]? = some x) (hlk : ∀ t ∈ x.looksAt ops, c'.tmps[t]? = c.tmps[t]?) (h : QP b P S c x v) : QP b P S c' x v := by
  unfold QP at h ⊢
  split at h
  · rename_i hb
    rw [if_pos hb]
    intro w1
    rw [exec_agree (fun cs b => Region.noSelect_spec hsel j x cs b hx) hlk]
    exact h w1
  · rename_i hb
    rw [if_neg hb]
    intro w1 hS
    rw [exec_agree (fun cs b => Region.noSelect_spec hsel j x cs b hx) hlk]
    exact h w1 hS
theorem Pend.moved (hc : sureB .any ops = true) (hd : distB ops = true) (hsel : Region.noSelect ops = true) {l lp lp' : List Nat} {c : Act} {listed listed' : Array Bool} {i : Nat} {o : Oper} {v : Value} (h : Pend P ops S l lp c listed) (hcl : Clos ops l) (ho : ops[i]? = some o) (hi : l.contains i = false)
    (hl : ∀ j, listed'.getD j true = false → listed.getD j true = false) (hlp : ∀ j, j ≠ i → lp'.contains j = lp.contains j) (hnew : listed'.getD i true = false → (if Region.wanted o (yielded ops (c.put o.dst v).tmps) = true then QP (lp'.contains i) P S (c.put o.dst v) o v else v = undef)) :
    Pend P ops S (i :: l) lp' (c.put o.dst v) listed' := fun j x hx hj hlj => by
  by_cases e : j = i
  · subst e
    rw [ho] at hx
    cases hx
    exact ⟨v, put_put c _ v, hnew hlj⟩
  · have hj' : l.contains j = true := by simpa [e] using hj
    obtain ⟨u, h1, h2⟩ := h j x hx hj' (hl j hlj)
    have hlk := looks_put hc ho hx hi (hcl j x hx hj') c v
    refine ⟨u, put_comm (fun t ht => distB_ne hd hx ho e ht) h1, ?_⟩
    rw [wanted_agree hlk, hlp j e]
    split
    · rename_i hw
      rw [if_pos hw] at h2
      exact h2.agree hsel hx hlk
    · rename_i hw
      rwa [if_neg hw] at h2

theorem qp_quiet {b : Bool} {p : Bool} {c : Act} {o : Oper} {v : Value} (h : if p = true then QP b P S c o v else v = undef) : if p = true then QuietOp P S c o v else v = undef := by
  split
  · rename_i hp; rw [if_pos hp] at h; exact h.quiet
  · rename_i hp; rwa [if_neg hp] at h
theorem ClosR.up {listed : Array Bool} {i : Nat} {o : Oper} (h : ClosR ops listed) (ho : ops[i]? = some o) (hall : ∀ e ∈ o.after, Region.binds .any e = true → listed.getD e.on false = true) : ClosR ops (listed.setIfInBounds i true) := fun j x hx hj e he hb => by
  have mono : ∀ m, listed.getD m false = true → (listed.setIfInBounds i true).getD m false = true := fun m hm => by
    by_cases e : i = m
    · subst e
      rcases Nat.lt_or_ge i listed.size with h' | h'
      · simp [h']
      · rw [Array.getD_eq_getD_getElem?] at hm; simp [h'] at hm
    · rw [getD_set_ne false e]; exact hm
  by_cases e' : i = j
  · subst e'
    rw [ho] at hx
    cases hx
    exact mono _ (hall e he hb)
  · rw [getD_set_ne false e'] at hj
    exact mono _ (h j x hx hj e he hb)

theorem wr_pend {listed : Array Bool} {a c : Act} {w wc : World} {i : Nat} {o : Oper} {v : Value} {K : Act → World → Prop} (hc : sureB .any ops = true) (hsel : Region.noSelect ops = true) (ho : ops[i]? = some o)
    (hall : ∀ e ∈ o.after, Region.binds .any e = true → listed.getD e.on false = true) (hg : Agree ops c listed a) (hS : S w) (hb : Below wc.heap.size wc w) (hv : c.put o.dst v = c)
    (hq : if Region.wanted o (yielded ops c.tmps) = true then QuietOp P S c o v else v = undef)
    (hK : ∀ a' w', Agree ops c (listed.setIfInBounds i true) a' → S w' → Below wc.heap.size wc w' → K a' w') : wpOp P ops Q i K a w := by
  have hl2 := hg.looks hc ho hall
  have he := exec_agree (fun cs b => Region.noSelect_spec hsel i o cs b ho) hl2
  have hwa := wanted_agree hl2
  unfold Go.wpOp
  simp only [ho, hwa]
  split
  · rename_i hw
    rw [if_pos hw] at hq
    refine .inl ?_
    unfold Oper.wp
    rw [he]
    rcases hq w hS with h | ⟨f, args, h, hcall⟩
    · rw [h]
      exact hK _ _ (hg.put ho hv) hS hb
    · rw [h]
      refine hcall.mono ?_
      rintro e w' ⟨rfl, hS', hb'⟩
      exact hK _ _ (hg.put ho hv) hS' (hb.trans (hb'.mono hb.size))
  · rename_i hw
    rw [if_neg hw] at hq
    subst hq
    exact hK _ _ (hg.put ho hv) hS hb

theorem wx_sim (hc : sureB .any ops = true) (hd : distB ops = true) (hsel : Region.noSelect ops = true) (hJ : ∀ a w, J a w → Q .normal a w) :
    ∀ (n : Nat) (S : World → Prop) (l lp : List Nat) (c : Act) (wc : World), WXq P ops J n S l lp c wc → cntL ops l = n → Clos ops l → (∀ j, lp.contains j = true → l.contains j = true) → ∀ (fuel : Nat) (listed : Array Bool) (a : Act) (w : World), left ops.size listed ≤ fuel → listed.size = ops.size →
      (∀ j, j < ops.size → listed.getD j true = true → l.contains j = true) → ClosR ops listed → Agree ops c listed a → S w → Below wc.heap.size wc w → Pend P ops S l lp c listed → wpAny P .any ops Q fuel listed a w := by
  intro n
  induction n with
  | zero =>
    intro S l lp c wc hW hn hcl hlps fuel
    induction fuel with
    | zero =>
      intro listed a w hf hsz hsub hcr hg hS hb hp
      have hr : Region.ready .any ops listed = [] := by
        cases hr : Region.ready .any ops listed with
        | nil => rfl
        | cons i r =>
          have hi : i ∈ Region.ready .any ops listed := by rw [hr]; exact .head _
          obtain ⟨h1, o, ho, _⟩ := mem_ready.1 hi
          have := left_set h1 (Array.getElem?_eq_some_iff.1 ho).1
          omega
      refine ⟨hr, ?_⟩
      rw [agree_all hg (all_of_none hc hsz hr)]
      exact hJ _ _ (hW w hb hS)
    | succ fuel ih =>
      intro listed a w hf hsz hsub hcr hg hS hb hp
      refine ⟨fun hr => ?_, fun i hi => ?_⟩
      · rw [agree_all hg (all_of_none hc hsz hr)]
        exact hJ _ _ (hW w hb hS)
      · obtain ⟨h1, o, ho, hall⟩ := mem_ready.1 hi
        have hil : i < ops.size := (Array.getElem?_eq_some_iff.1 ho).1
        have hlt := left_set h1 hil
        obtain ⟨v, hv, hq⟩ := hp i o ho (cntL_zero hn hil) h1
        exact wr_pend hc hsel ho hall hg hS hb hv (qp_quiet hq) (fun a' w' hg' hS' hb' => ih _ a' w' (by omega) (by simpa using hsz) (fun j hj _ => cntL_zero hn hj) (hcr.up ho hall) hg' hS' hb' (fun j x hx hj hlj => hp j x hx hj (getD_of_set hlj)))
  | succ n ihn =>
    intro S l lp c wc hW hn hcl hlps
    rcases hW with ⟨i, o, v, b, ho, hi, haft, hq, hW⟩ | hW
    · intro fuel listed a w hf hsz hsub hcr hg hS hb hp
      have hil : i < ops.size := (Array.getElem?_eq_some_iff.1 ho).1
      have hli : listed.getD i true = false := by
        cases h : listed.getD i true with
        | false => rfl
        | true => have := hsub i hil h; rw [this] at hi; cases hi
      have hlk := looks_put hc ho ho hi haft c v
      have hni : lp.contains i = false := by
        cases h : lp.contains i with
        | false => rfl
        | true => rw [hlps i h] at hi; cases hi
      refine ihn S (i :: l) (if b = true then i :: lp else lp) (c.put o.dst v) wc hW (cntL_cons ho hi hn) (hcl.cons ho haft) (fun j h => ?_) fuel listed a w hf hsz (fun j hj h => by simp only [List.contains_cons, Bool.or_eq_true]; exact .inr (hsub j hj h)) hcr (hg.moved v ho hli) hS hb
        (hp.moved hc hd hsel hcl ho hi (fun j h => h) (fun j hj => ?_) (fun _ => ?_))
      · by_cases e : j = i
        · subst e; simp
        · have : lp.contains j = true := by
            cases b with
            | false => simpa using h
            | true => simpa [e] using h
          have := hlps j this
          simp only [List.contains_cons, Bool.or_eq_true]
          exact .inr this
      · cases b with
        | false => rfl
        | true => simp [hj]
      rw [wanted_agree hlk]
      split
      · rename_i hw
        rw [if_pos hw] at hq
        have e : (if b = true then i :: lp else lp).contains i = b := by
          cases b with
          | false => exact hni
          | true => simp
        rw [e]
        exact hq.agree hsel ho hlk
      · rename_i hw
        rwa [if_neg hw] at hq
    · intro fuel
      induction fuel with
      | zero =>
        intro listed a w hf hsz hsub hcr hg hS hb hp
        exfalso
        have hr : Region.ready .any ops listed = [] := by
          cases hr : Region.ready .any ops listed with
          | nil => rfl
          | cons i r =>
            have hi : i ∈ Region.ready .any ops listed := by rw [hr]; exact .head _
            obtain ⟨h1, o, ho, _⟩ := mem_ready.1 hi
            have := left_set h1 (Array.getElem?_eq_some_iff.1 ho).1
            omega
        have hall := all_of_none hc hsz hr
        have : cntL ops l = 0 := by
          unfold cntL
          rw [List.countP_eq_zero]
          intro j hj
          have := hsub j (List.mem_range.1 hj) (hall j)
          simp only [this]
          decide
        omega
      | succ fuel ih =>
        intro listed a w hf hsz hsub hcr hg hS hb hp
        refine ⟨fun hr => ?_, fun i hi => ?_⟩
        · exfalso
          have hall := all_of_none hc hsz hr
          have : cntL ops l = 0 := by
            unfold cntL
            rw [List.countP_eq_zero]
            intro j hj
            have := hsub j (List.mem_range.1 hj) (hall j)
            simp only [this]
            decide
          omega
        · obtain ⟨h1, o, ho, hall⟩ := mem_ready.1 hi
          have hil : i < ops.size := (Array.getElem?_eq_some_iff.1 ho).1
          have hlt := left_set h1 hil
          cases hli : l.contains i with
          | true =>
            obtain ⟨v, hv, hq⟩ := hp i o ho hli h1
            refine wr_pend hc hsel ho hall hg hS hb hv (qp_quiet hq) (fun a' w' hg' hS' hb' => ih _ a' w' (by omega) (by simpa using hsz) (fun j hj h => ?_) (hcr.up ho hall) hg' hS' hb' (fun j x hx hj hlj => hp j x hx hj (getD_of_set hlj)))
            by_cases e : i = j
            · rw [← e]; exact hli
            · rw [getD_set_ne true e] at h; exact hsub j hj h
          | false =>
            have haft : aftB o l = true := by
              refine Array.all_eq_true_iff_forall_mem.2 fun e he => ?_
              cases hbd : Region.binds .any e with
              | false => rfl
              | true =>
                have h3 := hall e he hbd
                have h4 := sureB_after hc ho e he hbd
                have := hsub e.on (by omega) (getD_true_false h3)
                rw [this]; rfl
            obtain ⟨hw, hwp⟩ := hW i o ho hli haft
            have hwp := hwp w hb hS
            have hl2 := hg.looks hc ho hall
            have he := exec_agree (fun cs b => Region.noSelect_spec hsel i o cs b ho) hl2
            have hwa := wanted_agree hl2
            have fin : ∀ v w', ((∃ u, c.put o.dst v = c.put o.dst u) ∧ ∃ S', (barB ops i l lp = true ∨ S' = S) ∧ S' w' ∧ WXq P ops J n S' (i :: l) (i :: lp) (c.put o.dst v) w') → wpAny P .any ops Q fuel (listed.setIfInBounds i true) (a.put o.dst v) w' := fun v w' ⟨_, S', hbar, hS', hW'⟩ => by
              have hp' : Pend P ops S' (i :: l) (i :: lp) (c.put o.dst v) (listed.setIfInBounds i true) := by
                have hbase : Pend P ops S' l lp c listed := by
                  rcases hbar with hbar | rfl
                  · intro j x hx hj hlj
                    obtain ⟨u, h1, h2⟩ := hp j x hx hj hlj
                    refine ⟨u, h1, ?_⟩
                    have h3 := List.all_eq_true.1 hbar j (by simpa using hj)
                    simp only [Bool.or_eq_true] at h3
                    rcases h3 with h3 | h3
                    · rw [h3] at h2 ⊢
                      exact h2
                    · exfalso
                      have h4 := mark_ok hcr ops.size (onsOf ops i) (fun m hm => by
                        unfold onsOf at hm
                        rw [ho] at hm
                        obtain ⟨e, he, rfl⟩ := List.mem_map.1 hm
                        obtain ⟨h5, h6⟩ := List.mem_filter.1 he
                        exact hall e (by simpa using h5) h6) j (by simpa using h3)
                      have := getD_true_false h4
                      rw [this] at hlj
                      cases hlj
                  · exact hp
                refine hbase.moved hc hd hsel hcl ho hli (fun j h => getD_of_set h) (fun j hj => by simp [hj]) (fun h => ?_)
                exfalso
                have : i < listed.size := by omega
                simp [this] at h
              refine ihn S' (i :: l) (i :: lp) (c.put o.dst v) w' hW' (cntL_cons ho hli hn) (hcl.cons ho haft) (fun j h => by
                simp only [List.contains_cons, Bool.or_eq_true] at h ⊢
                exact h.imp id (hlps j)) fuel _ _ w' (by omega) (by simpa using hsz) (fun j hj h => ?_) (hcr.up ho hall) (hg.put2 ho rfl) hS' (Below.refl _ _) hp'
              by_cases e : i = j
              · subst e; simp
              · rw [getD_set_ne true e] at h
                simp only [List.contains_cons, Bool.or_eq_true]
                exact .inr (hsub j hj h)
            unfold Go.wpOp
            simp only [ho, hwa, hw, if_true]
            refine .inl ?_
            unfold Oper.wp at hwp ⊢
            rw [he]
            generalize (execOp c.eval o).run P w = r at hwp ⊢
            cases r with
            | ok nd w' =>
              cases nd <;> simp only [Oper.upon] at hwp ⊢
              case value u => exact fin _ _ hwp
              case skip => exact fin _ _ hwp
              case defer df =>
                obtain ⟨⟨u, hu⟩, _⟩ := hwp
                have := congrArg Act.defers hu
                cases hdd : o.dst <;> simp [Act.put, hdd] at this
              case enter f args =>
                refine Calls.mono hwp fun e w'' he => ?_
                cases e with
                | returned u => exact fin _ _ he
                | panicked c => exact he.elim
                | outgrown => obtain ⟨_, _, h⟩ := he; exact h.elim
              case row row args => exact Rows.mono hwp fun u w'' he => fin _ _ he
            | halt x w' =>
              cases x <;> simp only [Oper.upon] at hwp
end
end Go.Proofs.Ytiogegoepgkjlaa
