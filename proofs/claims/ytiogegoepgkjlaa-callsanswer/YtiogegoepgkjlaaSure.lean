/-
  A region that draws its order, in which every operation's value is sure: no order is gone through.
  F is the frame in which all temporaries hold what they are to hold behind the region; an operation is looked at once, in F.
-/
import Derived.Deep.RegionHeld
import Derived.KernelRfl
namespace Go.Proofs.Ytiogegoepgkjlaa
theorem ky {p : Prop} (h : p := by kernel_rfl) : p := h
open Go

/-- whoever writes a temporary that an operation looks at is waited for, and stands ahead of it -/
def sureB (md : Region.Mode) (ops : Array Oper) : Bool :=
  (List.range ops.size).all fun i =>
    match ops[i]? with
    | none => true
    | some o => (o.after.all fun e => !Region.binds md e || decide (e.on < i)) &&
      (o.looksAt ops).all fun t => (List.range ops.size).all fun j =>
        match ops[j]? with
        | none => true
        | some oj => oj.dst != some t || o.after.any fun e => Region.binds md e && e.on == j

section
variable {P : Program} {ops : Array Oper} {Q : Exit → Act → World → Prop} {md : Region.Mode} {S : World → Prop} {F : Act}

theorem sureB_after (h : sureB md ops = true) {i : Nat} {o : Oper} (ho : ops[i]? = some o) : ∀ e ∈ o.after, Region.binds md e = true → e.on < i := fun e he hb => by
  have hlt : i < ops.size := (Array.getElem?_eq_some_iff.1 ho).1
  have h1 := (List.all_eq_true.1 h) i (List.mem_range.2 hlt)
  simp only [ho, Bool.and_eq_true] at h1
  have h2 := (Array.all_eq_true_iff_forall_mem.1 h1.1) e he
  simpa [hb] using h2

theorem sureB_looks (h : sureB md ops = true) {i : Nat} {o : Oper} (ho : ops[i]? = some o) {t : Tmp} (ht : t ∈ o.looksAt ops) {j : Nat} {oj : Oper} (hj : ops[j]? = some oj) (hd : oj.dst = some t) :
    ∃ e ∈ o.after, Region.binds md e = true ∧ e.on = j := by
  have hlt : i < ops.size := (Array.getElem?_eq_some_iff.1 ho).1
  have hltj : j < ops.size := (Array.getElem?_eq_some_iff.1 hj).1
  have h1 := (List.all_eq_true.1 h) i (List.mem_range.2 hlt)
  simp only [ho, Bool.and_eq_true] at h1
  have h2 := (List.all_eq_true.1 ((List.all_eq_true.1 h1.2) t ht)) j (List.mem_range.2 hltj)
  simp only [hj, hd, bne_self_eq_false, Bool.false_or] at h2
  obtain ⟨k, hk, h3⟩ := Array.any_eq_true.1 h2
  rw [Bool.and_eq_true, beq_iff_eq] at h3
  exact ⟨_, Array.getElem_mem hk, h3⟩

/-- the frame at hand agrees with F wherever all that write there have come up -/
def Agree (ops : Array Oper) (F : Act) (listed : Array Bool) (a : Act) : Prop :=
  a.defers = F.defers ∧ a.tmps.size = F.tmps.size ∧
  ∀ t, (∀ j o, ops[j]? = some o → o.dst = some t → listed.getD j true = true) → a.tmps[t]? = F.tmps[t]?

/-- an operation in F: it yields what stands in F, and keeps S -/
def OpSure (P : Program) (ops : Array Oper) (Q : Exit → Act → World → Prop) (S : World → Prop) (F : Act) (o : Oper) : Prop :=
  ∀ w, S w → if Region.wanted o (yielded ops F.tmps) = true then Oper.wp P o F w (fun a' w' => a' = F ∧ S w') Q else F.put o.dst undef = F

theorem getD_true_false {listed : Array Bool} {j : Nat} (h : listed.getD j false = true) : listed.getD j true = true := by
  rcases Nat.lt_or_ge j listed.size with h' | h'
  · simpa [h'] using h
  · simp [Array.getElem?_eq_none h'] at h

theorem put_eq_get {d : Tmp} {v : Value} (h : F.put (some d) v = F) (hd : d < F.tmps.size) : F.tmps[d]? = some v := by
  have h1 := congrArg (fun a : Act => a.tmps[d]?) h
  simp only [Act.put] at h1
  rw [← h1, Array.getElem?_setIfInBounds_self_of_lt hd]

theorem Agree.put {listed : Array Bool} {a : Act} {i : Nat} {o : Oper} {v : Value} (h : Agree ops F listed a) (ho : ops[i]? = some o) (hp : F.put o.dst v = F) :
    Agree ops F (listed.setIfInBounds i true) (a.put o.dst v) := by
  obtain ⟨h1, h2, h3⟩ := h
  cases hd : o.dst with
  | none =>
    refine ⟨h1, h2, fun t ht => h3 t fun j oj hj hjd => ?_⟩
    have hne : i ≠ j := fun e => by subst e; rw [ho] at hj; cases hj; rw [hd] at hjd; cases hjd
    have := ht j oj hj hjd
    rwa [getD_set_ne true hne] at this
  | some d =>
    rw [hd] at hp
    refine ⟨h1, by simp [Act.put, h2], fun t ht => ?_⟩
    by_cases htd : d = t
    · subst htd
      rcases Nat.lt_or_ge d F.tmps.size with hlt | hge
      · rw [put_eq_get hp hlt]
        simp only [Act.put]
        rw [Array.getElem?_setIfInBounds_self_of_lt (by omega)]
      · rw [Array.getElem?_eq_none hge, Array.getElem?_eq_none (by simp [Act.put]; omega)]
    · simp only [Act.put]
      rw [Array.getElem?_setIfInBounds_ne htd]
      refine h3 t fun j oj hj hjd => ?_
      have hne : i ≠ j := fun e => by subst e; rw [ho] at hj; cases hj; rw [hd] at hjd; cases hjd; exact htd rfl
      have := ht j oj hj hjd
      rwa [getD_set_ne true hne] at this

/-- what a ready operation looks at stands there as in F -/
theorem Agree.looks (hc : sureB md ops = true) {listed : Array Bool} {a : Act} {i : Nat} {o : Oper} (h : Agree ops F listed a) (ho : ops[i]? = some o)
    (hall : ∀ e ∈ o.after, Region.binds md e = true → listed.getD e.on false = true) : ∀ t ∈ o.looksAt ops, a.tmps[t]? = F.tmps[t]? := fun t ht =>
  h.2.2 t fun _ _ hj hd => by
    obtain ⟨e, he, hb, rfl⟩ := sureB_looks hc ho ht hj hd
    exact getD_true_false (hall e he hb)

theorem exec_agree {a : Act} {o : Oper} (hs : ∀ cs b, o.op ≠ .select cs b) (h : ∀ t ∈ o.looksAt ops, a.tmps[t]? = F.tmps[t]?) : execOp a.eval o = execOp F.eval o :=
  execOp_congr o hs fun x hx => by
    cases x with
    | tmp t =>
      have ht : t ∈ o.looksAt ops := List.mem_append_left _ (List.mem_filterMap.2 ⟨.tmp t, by simpa using hx, rfl⟩)
      simp only [Act.eval, Array.getD_eq_getD_getElem?, h t ht]
    | _ => rfl

theorem wanted_agree {a : Act} {o : Oper} (h : ∀ t ∈ o.looksAt ops, a.tmps[t]? = F.tmps[t]?) : Region.wanted o (yielded ops a.tmps) = Region.wanted o (yielded ops F.tmps) := by
  unfold Region.wanted
  cases hg : o.guard with
  | none => rfl
  | some gw =>
    obtain ⟨g, want⟩ := gw
    have hy : yielded ops a.tmps g = yielded ops F.tmps g := by
      unfold yielded
      cases ht : (ops[g]?).bind (·.dst) with
      | none => rfl
      | some t =>
        have := h t (by simp [Oper.looksAt, hg, ht])
        simp [this]
    simp only [hy]

/-- from F to the frame at hand -/
theorem OpSure.wpOp (hc : sureB md ops = true) (hsel : Region.noSelect ops = true) (hQ : ∀ c ts w, Q (.panic c) F w → Q (.panic c) ⟨ts, F.defers⟩ w)
    {listed : Array Bool} {a : Act} {w : World} {i : Nat} {o : Oper} (hg : Agree ops F listed a) (ho : ops[i]? = some o)
    (hall : ∀ e ∈ o.after, Region.binds md e = true → listed.getD e.on false = true) (hS : S w) (h : OpSure P ops Q S F o) {K : Act → World → Prop}
    (hK : ∀ a' w', Agree ops F (listed.setIfInBounds i true) a' → S w' → K a' w') : wpOp P ops Q i K a w := by
  have hl := hg.looks hc ho hall
  have he := exec_agree (fun cs b => Region.noSelect_spec hsel i o cs b ho) hl
  have hw := wanted_agree hl
  have hQ' : ∀ c w, Q (.panic c) F w → Q (.panic c) a w := fun c w h => by
    have : a = ⟨a.tmps, F.defers⟩ := by cases a; simp only [Act.mk.injEq, true_and]; exact hg.1
    rw [this]
    exact hQ c _ w h
  have fin : ∀ v w', F.put o.dst v = F → S w' → K (a.put o.dst v) w' := fun v w' hp hs => hK _ _ (hg.put ho hp) hs
  have h := h w hS
  unfold Go.wpOp
  simp only [ho, hw]
  split
  · rename_i hwt
    simp only [hwt, if_true] at h
    refine .inl ?_
    unfold Oper.wp at h ⊢
    rw [he]
    generalize (execOp F.eval o).run P w = r at h ⊢
    cases r with
    | ok n w' =>
      cases n <;> simp only [Oper.upon] at h ⊢
      case value u => exact fin _ _ h.1 h.2
      case skip => exact fin _ _ h.1 h.2
      case defer d =>
        have := congrArg Act.defers h.1
        cases hd : o.dst <;> simp [Act.put, hd] at this
      case enter f args =>
        refine Calls.mono h fun e w'' he => ?_
        cases e with
        | returned u => exact fin _ _ he.1 he.2
        | panicked c => exact hQ' _ _ he
        | outgrown => exact he
      case row row args => exact Rows.mono h fun u w'' he => fin _ _ he.1 he.2
    | halt x w' =>
      cases x <;> simp only [Oper.upon] at h ⊢
      case panic u => exact hQ' _ _ h
  · rename_i hwt
    simp only [hwt] at h
    exact fin _ _ h hS

/-- how many have not come up -/
def left (n : Nat) (listed : Array Bool) : Nat := (List.range n).countP fun i => !listed.getD i true

theorem countP_lt {α : Type} {p q : α → Bool} (hpq : ∀ x, p x = true → q x = true) : ∀ (l : List α), (∃ x ∈ l, q x = true ∧ p x = false) → l.countP p < l.countP q
  | [], h => by obtain ⟨x, hx, _⟩ := h; cases hx
  | x :: l, h => by
    have hle : l.countP p ≤ l.countP q := List.countP_mono_left fun x _ => hpq x
    rw [List.countP_cons, List.countP_cons]
    obtain ⟨y, hy, h1, h2⟩ := h
    rcases List.mem_cons.1 hy with rfl | hy'
    · simp [h1, h2]; omega
    · have := countP_lt hpq l ⟨y, hy', h1, h2⟩
      cases hp : p x
      · cases hq : q x <;> simp <;> omega
      · simp [hpq x hp]; omega

theorem left_set {listed : Array Bool} {i n : Nat} (hi : listed.getD i true = false) (hn : i < n) : left n (listed.setIfInBounds i true) < left n listed := by
  refine countP_lt (fun x hx => ?_) _ ⟨i, List.mem_range.2 hn, by simp only [hi]; rfl, ?_⟩
  · by_cases h : i = x
    · subst h
      rcases Nat.lt_or_ge i listed.size with h' | h'
      · simp [h'] at hx
      · simp [Array.getElem?_eq_none h'] at hi
    · rwa [getD_set_ne true h] at hx
  · rcases Nat.lt_or_ge i listed.size with h' | h'
    · simp [h']
    · simp [Array.getElem?_eq_none h'] at hi

theorem all_of_none (hc : sureB md ops = true) {listed : Array Bool} (hsz : listed.size = ops.size) (hr : Region.ready md ops listed = []) : ∀ i, listed.getD i true = true := by
  intro i
  induction i using Nat.strongRecOn with
  | ind i ih =>
    cases h : listed.getD i true with
    | true => rfl
    | false =>
      have hlt : i < listed.size := by
        rcases Nat.lt_or_ge i listed.size with h' | h'
        · exact h'
        · simp [Array.getElem?_eq_none h'] at h
      have ho : ops[i]? = some (ops[i]'(by omega)) := Array.getElem?_eq_getElem (by omega)
      have : i ∈ Region.ready md ops listed := mem_ready.2 ⟨h, _, ho, fun e he hb => by
        have hlt' := sureB_after hc ho e he hb
        have h1 := ih e.on hlt'
        have h2 : e.on < listed.size := by omega
        simpa [h2] using h1⟩
      rw [hr] at this
      cases this

theorem agree_all {listed : Array Bool} {a : Act} (h : Agree ops F listed a) (hall : ∀ i, listed.getD i true = true) : a = F := by
  obtain ⟨h1, h2, h3⟩ := h
  have : a.tmps = F.tmps := Array.ext_getElem? fun t => h3 t fun j _ _ _ => hall j
  cases a; cases F; simp_all

/-- **whatever order is picked** -/
theorem wpAny_sure (hc : sureB md ops = true) (hsel : Region.noSelect ops = true) (hQ : ∀ c ts w, Q (.panic c) F w → Q (.panic c) ⟨ts, F.defers⟩ w)
    (listed0 : Array Bool) (hop : ∀ i o, ops[i]? = some o → listed0.getD i true = false → OpSure P ops Q S F o) (hend : ∀ w, S w → Q .normal F w) :
    ∀ (fuel : Nat) (listed : Array Bool) (a : Act) (w : World), left ops.size listed ≤ fuel → listed.size = ops.size → (∀ i, listed0.getD i true = true → listed.getD i true = true) →
      Agree ops F listed a → S w → wpAny P md ops Q fuel listed a w := by
  intro fuel
  induction fuel with
  | zero =>
    intro listed a w hf hsz h0 hg hS
    have hr : Region.ready md ops listed = [] := by
      cases hr : Region.ready md ops listed with
      | nil => rfl
      | cons i l =>
        have hi : i ∈ Region.ready md ops listed := by rw [hr]; exact .head _
        obtain ⟨h1, o, ho, _⟩ := mem_ready.1 hi
        have := left_set h1 (Array.getElem?_eq_some_iff.1 ho).1
        omega
    exact ⟨hr, by rw [agree_all hg (all_of_none hc hsz hr)]; exact hend w hS⟩
  | succ fuel ih =>
    intro listed a w hf hsz h0 hg hS
    refine ⟨fun hr => by rw [agree_all hg (all_of_none hc hsz hr)]; exact hend w hS, fun i hi => ?_⟩
    obtain ⟨h1, o, ho, hall⟩ := mem_ready.1 hi
    have hn0 : listed0.getD i true = false := by
      cases h : listed0.getD i true with
      | false => rfl
      | true => rw [h0 i h] at h1; cases h1
    have hlt := left_set h1 (Array.getElem?_eq_some_iff.1 ho).1
    refine (hop i o ho hn0).wpOp hc hsel hQ hg ho hall hS fun a' w' hg' hS' => ih _ _ _ (by omega) (by simpa using hsz) (fun j hj => ?_) hg' hS'
    by_cases hij : i = j
    · subst hij; rw [hn0] at hj; cases hj
    · rw [getD_set_ne true hij]; exact h0 j hj

/-- the frame behind the region, by its operations' values -/
def putAll (ops : List Oper) (vs : List Value) (a : Act) : Act :=
  match ops, vs with
  | o :: ops, v :: vs => putAll ops vs (a.put o.dst v)
  | _, _ => a

theorem putAll_defers : ∀ (os : List Oper) (vs : List Value) (a : Act), (putAll os vs a).defers = a.defers
  | [], _, _ => rfl
  | _ :: _, [], _ => rfl
  | o :: os, v :: vs, a => by
    rw [putAll, putAll_defers os vs]
    cases o.dst <;> rfl
theorem putAll_size : ∀ (os : List Oper) (vs : List Value) (a : Act), (putAll os vs a).tmps.size = a.tmps.size
  | [], _, _ => rfl
  | _ :: _, [], _ => rfl
  | o :: os, v :: vs, a => by
    rw [putAll, putAll_size os vs]
    cases o.dst <;> simp [Act.put]
theorem putAll_get {t : Tmp} : ∀ (os : List Oper) (vs : List Value) (a : Act), (∀ o ∈ os, o.dst ≠ some t) → (putAll os vs a).tmps[t]? = a.tmps[t]?
  | [], _, _, _ => rfl
  | _ :: _, [], _, _ => rfl
  | o :: os, v :: vs, a, h => by
    rw [putAll, putAll_get os vs _ fun o ho => h o (.tail _ ho)]
    cases hd : o.dst with
    | none => rfl
    | some d =>
      have : d ≠ t := fun e => h o (.head _) (by rw [hd, e])
      simp only [Act.put]
      rw [Array.getElem?_setIfInBounds_ne this]

theorem agree_start {a : Act} {vs : List Value} (hF : putAll ops.toList vs a = F) : Agree ops F (Array.replicate ops.size false) a := by
  subst hF
  refine ⟨(putAll_defers _ _ _).symm, (putAll_size _ _ _).symm, fun t ht => (putAll_get _ _ _ fun o ho hd => ?_).symm⟩
  obtain ⟨j, hj⟩ := List.mem_iff_getElem?.1 ho
  rw [Array.getElem?_toList] at hj
  have hlt : j < ops.size := (Array.getElem?_eq_some_iff.1 hj).1
  have := ht j o hj hd
  simp [hlt] at this

/-- each operation of a list is sure -/
def AllSure (P : Program) (ops : Array Oper) (Q : Exit → Act → World → Prop) (S : World → Prop) (F : Act) : List Oper → Prop
  | [] => True
  | o :: os => OpSure P ops Q S F o ∧ AllSure P ops Q S F os
theorem AllSure.nil : AllSure P ops Q S F [] := trivial
theorem AllSure.cons {o : Oper} {os : List Oper} (h : OpSure P ops Q S F o) (hs : AllSure P ops Q S F os) : AllSure P ops Q S F (o :: os) := ⟨h, hs⟩
theorem AllSure.get {os : List Oper} (h : AllSure P ops Q S F os) : ∀ o ∈ os, OpSure P ops Q S F o := by
  induction os with
  | nil => intro o ho; cases ho
  | cons x xs ih =>
    intro o ho
    rcases List.mem_cons.1 ho with rfl | ho
    · exact h.1
    · exact ih h.2 o ho

/-- the whole region -/
theorem wp_region_sure {id : Nat} {a : Act} {w : World} (F : Act) (S : World → Prop) (vs : List Value) (hm : P.follows .mixedOrders = true) (hc : sureB .any ops = true) (hsel : Region.noSelect ops = true)
    (hF : putAll ops.toList vs a = F) (hQ : ∀ c ts w, Q (.panic c) F w → Q (.panic c) ⟨ts, F.defers⟩ w) (hS : S w.drew) (hop : AllSure P ops Q S F ops.toList) (hend : ∀ w, S w → Q .normal F w) :
    (Code.region id ops true).wp P Q a w :=
  wp_region_any hm (wpAny_sure hc hsel hQ (Array.replicate ops.size false) (fun i o ho _ => hop.get o (List.mem_of_getElem? (by rw [Array.getElem?_toList]; exact ho))) hend _ _ _ _
    (Nat.le_trans (List.countP_le_length) (by simp)) (by simp) (fun _ h => h) (agree_start hF) hS)

/-- an operation that leaves the world as it is -/
theorem OpSure.take {o : Oper} {v : Value} (hw : Region.wanted o (yielded ops F.tmps) = true) (hp : F.put o.dst v = F) (h : ∀ w, S w → (execOp F.eval o).run P w = .ok (.value v) w) : OpSure P ops Q S F o := fun w hS => by
  rw [if_pos hw]
  unfold Oper.wp
  rw [h w hS]
  exact ⟨hp, hS⟩
theorem OpSure.skip {o : Oper} (hw : Region.wanted o (yielded ops F.tmps) = false) (hp : F.put o.dst undef = F) : OpSure P ops Q S F o := fun w hS => by
  rw [if_neg (by rw [hw]; decide)]
  exact hp
theorem OpSure.call {o : Oper} {v : Value} {f : FuncId} {args : Array Value} (hw : Region.wanted o (yielded ops F.tmps) = true) (hp : F.put o.dst v = F)
    (h : ∀ w, S w → (execOp F.eval o).run P w = .ok (.enter f args) w) (hc : ∀ w, S w → Calls P f args w fun e w' => e = .returned v ∧ S w') : OpSure P ops Q S F o := fun w hS => by
  rw [if_pos hw]
  unfold Oper.wp
  rw [h w hS]
  refine (hc w hS).mono ?_
  rintro e w' ⟨rfl, h'⟩
  exact ⟨hp, h'⟩
end
end Go.Proofs.Ytiogegoepgkjlaa
