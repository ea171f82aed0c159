/-
  A region that draws its order and makes memory: what it makes has a place that hangs on the order; the places are the ghost g.
-/
import Derived.Test.YtiogegoepgkjlaaSure
namespace Go.Proofs.Ytiogegoepgkjlaa
open Go

/-- one value turned -/
def up {α : Type} (f : Nat → α) (i : Nat) (v : α) : Nat → α := fun j => if j = i then v else f j
theorem up_self {α : Type} (f : Nat → α) (i : Nat) : up f i (f i) = f := by
  funext j
  unfold up
  split
  · rename_i h; rw [h]
  · rfl
theorem up_at {α : Type} (f : Nat → α) (i : Nat) (v : α) : up f i v i = v := if_pos rfl
theorem up_ne {α : Type} (f : Nat → α) {i j : Nat} (v : α) (h : j ≠ i) : up f i v j = f j := if_neg h

section
variable {P : Program} {ops : Array Oper} {Q : Exit → Act → World → Prop} {md : Region.Mode} {S : (Nat → Nat) → (Nat → Bool) → World → Prop} {F : (Nat → Nat) → Act}

/-- who has come up -/
def dn (listed : Array Bool) : Nat → Bool := fun j => listed.getD j true
theorem dn_set {listed : Array Bool} {i : Nat} : dn (listed.setIfInBounds i true) = up (dn listed) i true := by
  funext j
  unfold dn up
  split
  · rename_i h
    subst h
    rcases Nat.lt_or_ge j listed.size with h' | h'
    · simp [h']
    · simp
  · rename_i h
    exact getD_set_ne true (Ne.symm h)

/-- an operation, in the frame of whatever ghost -/
def OpGhost (P : Program) (md : Region.Mode) (ops : Array Oper) (Q : Exit → Act → World → Prop) (S : (Nat → Nat) → (Nat → Bool) → World → Prop) (F : (Nat → Nat) → Act) (i : Nat) (o : Oper) : Prop :=
  ∀ g d w, S g d w → d i = false → (∀ e ∈ o.after, Region.binds md e = true → d e.on = true) →
    if Region.wanted o (yielded ops (F g).tmps) = true then Oper.wp P o (F g) w (fun a' w' => ∃ n, a' = F (up g i n) ∧ S (up g i n) (up d i true) w') Q else (F g).put o.dst undef = F g ∧ S g (up d i true) w

theorem Agree.put2 {listed : Array Bool} {a F F' : Act} {i : Nat} {o : Oper} {v : Value} (h : Agree ops F listed a) (ho : ops[i]? = some o) (hp : F.put o.dst v = F') :
    Agree ops F' (listed.setIfInBounds i true) (a.put o.dst v) := by
  obtain ⟨h1, h2, h3⟩ := h
  subst hp
  cases hd : o.dst with
  | none =>
    refine ⟨h1, h2, fun t ht => h3 t fun j oj hj hjd => ?_⟩
    have hne : i ≠ j := fun e => by subst e; rw [ho] at hj; cases hj; rw [hd] at hjd; cases hjd
    have := ht j oj hj hjd
    rwa [getD_set_ne true hne] at this
  | some d =>
    refine ⟨h1, by simp [Act.put, h2], fun t ht => ?_⟩
    by_cases htd : d = t
    · subst htd
      simp only [Act.put]
      rcases Nat.lt_or_ge d F.tmps.size with hlt | hge
      · rw [Array.getElem?_setIfInBounds_self_of_lt hlt, Array.getElem?_setIfInBounds_self_of_lt (by omega)]
      · rw [Array.getElem?_eq_none (by simp; omega), Array.getElem?_eq_none (by simp; omega)]
    · simp only [Act.put]
      rw [Array.getElem?_setIfInBounds_ne htd, Array.getElem?_setIfInBounds_ne htd]
      refine h3 t fun j oj hj hjd => ?_
      have hne : i ≠ j := fun e => by subst e; rw [ho] at hj; cases hj; rw [hd] at hjd; cases hjd; exact htd rfl
      have := ht j oj hj hjd
      rwa [getD_set_ne true hne] at this

theorem OpGhost.wpOp (hc : sureB md ops = true) (hsel : Region.noSelect ops = true) (hQ : ∀ g c ts w, Q (.panic c) (F g) w → Q (.panic c) ⟨ts, (F g).defers⟩ w)
    {listed : Array Bool} {a : Act} {w : World} {g : Nat → Nat} {i : Nat} {o : Oper} (hg : Agree ops (F g) listed a) (ho : ops[i]? = some o) (hi : listed.getD i true = false)
    (hall : ∀ e ∈ o.after, Region.binds md e = true → listed.getD e.on false = true) (hS : S g (dn listed) w) (h : OpGhost P md ops Q S F i o) {K : Act → World → Prop}
    (hK : ∀ g' a' w', Agree ops (F g') (listed.setIfInBounds i true) a' → S g' (dn (listed.setIfInBounds i true)) w' → K a' w') : wpOp P ops Q i K a w := by
  have hl := hg.looks hc ho hall
  have he := exec_agree (fun cs b => Region.noSelect_spec hsel i o cs b ho) hl
  have hw := wanted_agree hl
  have hQ' : ∀ c w, Q (.panic c) (F g) w → Q (.panic c) a w := fun c w h => by
    have : a = ⟨a.tmps, (F g).defers⟩ := by cases a; simp only [Act.mk.injEq, true_and]; exact hg.1
    rw [this]
    exact hQ g c _ w h
  have fin : ∀ v w', (∃ n, (F g).put o.dst v = F (up g i n) ∧ S (up g i n) (up (dn listed) i true) w') → K (a.put o.dst v) w' := fun v w' ⟨n, hp, hs⟩ => hK _ _ _ (hg.put2 ho hp) (by rw [dn_set]; exact hs)
  have h := h g (dn listed) w hS hi (fun e he hb => getD_true_false (hall e he hb))
  unfold Go.wpOp
  simp only [ho, hw]
  split
  · rename_i hwt
    simp only [hwt, if_true] at h
    refine .inl ?_
    unfold Oper.wp at h ⊢
    rw [he]
    generalize (execOp (F g).eval o).run P w = r at h ⊢
    cases r with
    | ok n w' =>
      cases n <;> simp only [Oper.upon] at h ⊢
      case value u => exact fin _ _ h
      case skip => exact fin _ _ h
      case defer d =>
        obtain ⟨m, h1, h2⟩ := h
        refine hK _ _ _ ?_ (by rw [dn_set]; exact h2)
        have hb : Agree ops { F g with defers := d :: (F g).defers } listed { a with defers := d :: a.defers } := ⟨by rw [hg.1], hg.2.1, hg.2.2⟩
        exact hb.put2 ho h1
      case enter f args =>
        refine Calls.mono h fun e w'' he => ?_
        cases e with
        | returned u => exact fin _ _ he
        | panicked c => exact hQ' _ _ he
        | outgrown => exact he
      case row row args => exact Rows.mono h fun u w'' he => fin _ _ he
    | halt x w' =>
      cases x <;> simp only [Oper.upon] at h ⊢
      case panic u => exact hQ' _ _ h
  · rename_i hwt
    simp only [hwt] at h
    exact fin _ _ ⟨g i, by rw [up_self]; exact h⟩

theorem wpAny_ghost (hc : sureB md ops = true) (hsel : Region.noSelect ops = true) (hQ : ∀ g c ts w, Q (.panic c) (F g) w → Q (.panic c) ⟨ts, (F g).defers⟩ w)
    (hop : ∀ i o, ops[i]? = some o → OpGhost P md ops Q S F i o) (hend : ∀ g w, S g (fun _ => true) w → Q .normal (F g) w) :
    ∀ (fuel : Nat) (listed : Array Bool) (g : Nat → Nat) (a : Act) (w : World), left ops.size listed ≤ fuel → listed.size = ops.size →
      Agree ops (F g) listed a → S g (dn listed) w → wpAny P md ops Q fuel listed a w := by
  have fin : ∀ (listed : Array Bool) (g : Nat → Nat) (a : Act) (w : World), listed.size = ops.size → Agree ops (F g) listed a → S g (dn listed) w → Region.ready md ops listed = [] → Q .normal a w := fun listed g a w hsz hg hS hr => by
    have hall := all_of_none hc hsz hr
    rw [agree_all hg hall]
    have : dn listed = fun _ => true := funext hall
    rw [this] at hS
    exact hend g w hS
  intro fuel
  induction fuel with
  | zero =>
    intro listed g a w hf hsz hg hS
    have hr : Region.ready md ops listed = [] := by
      cases hr : Region.ready md ops listed with
      | nil => rfl
      | cons i l =>
        have hi : i ∈ Region.ready md ops listed := by rw [hr]; exact .head _
        obtain ⟨h1, o, ho, _⟩ := mem_ready.1 hi
        have := left_set h1 (Array.getElem?_eq_some_iff.1 ho).1
        omega
    exact ⟨hr, fin listed g a w hsz hg hS hr⟩
  | succ fuel ih =>
    intro listed g a w hf hsz hg hS
    refine ⟨fin listed g a w hsz hg hS, fun i hi => ?_⟩
    obtain ⟨h1, o, ho, hall⟩ := mem_ready.1 hi
    have hlt := left_set h1 (Array.getElem?_eq_some_iff.1 ho).1
    exact (hop i o ho).wpOp hc hsel hQ hg ho h1 hall hS fun g' a' w' hg' hS' => ih _ g' _ _ (by omega) (by simpa using hsz) hg' hS'

/-- each operation of a list, from number i on -/
def AllGhost (P : Program) (md : Region.Mode) (ops : Array Oper) (Q : Exit → Act → World → Prop) (S : (Nat → Nat) → (Nat → Bool) → World → Prop) (F : (Nat → Nat) → Act) : Nat → List Oper → Prop
  | _, [] => True
  | i, o :: os => OpGhost P md ops Q S F i o ∧ AllGhost P md ops Q S F (i + 1) os
theorem AllGhost.nil {i : Nat} : AllGhost P md ops Q S F i [] := trivial
theorem AllGhost.cons {i : Nat} {o : Oper} {os : List Oper} (h : OpGhost P md ops Q S F i o) (hs : AllGhost P md ops Q S F (i + 1) os) : AllGhost P md ops Q S F i (o :: os) := ⟨h, hs⟩
theorem AllGhost.get : ∀ {os : List Oper} {k : Nat}, AllGhost P md ops Q S F k os → ∀ i o, os[i]? = some o → OpGhost P md ops Q S F (k + i) o := by
  intro os
  induction os with
  | nil => intro k _ i o ho; simp at ho
  | cons x xs ih =>
    intro k h i o ho
    cases i with
    | zero => obtain rfl : x = o := by simpa using ho
              exact h.1
    | succ i =>
      have := ih h.2 i o (by simpa using ho)
      rwa [Nat.add_right_comm, Nat.add_assoc] at this

/-- the whole region; 'vs' are the values in the frame of the ghost 'fun _ => 0' -/
theorem wp_region_ghost {id : Nat} {a : Act} {w : World} (F : (Nat → Nat) → Act) (S : (Nat → Nat) → (Nat → Bool) → World → Prop) (vs : List Value) (hm : P.follows .mixedOrders = true) (hc : sureB .any ops = true) (hsel : Region.noSelect ops = true)
    (hF : putAll ops.toList vs a = F (fun _ => 0)) (hQ : ∀ g c ts w, Q (.panic c) (F g) w → Q (.panic c) ⟨ts, (F g).defers⟩ w) (hS : ∀ d : Nat → Bool, (∀ j, j < ops.size → d j = false) → S (fun _ => 0) d w.drew)
    (hop : AllGhost P .any ops Q S F 0 ops.toList) (hend : ∀ g w, S g (fun _ => true) w → Q .normal (F g) w) :
    (Code.region id ops true).wp P Q a w :=
  wp_region_any hm (wpAny_ghost hc hsel hQ (fun i o ho => by have := hop.get i o (by rw [Array.getElem?_toList]; exact ho); rwa [Nat.zero_add] at this) hend _ _ (fun _ => 0) _ _
    (Nat.le_trans (List.countP_le_length) (by simp)) (by simp) (agree_start hF) (hS _ fun j hj => by simp [dn, hj]))

/-- the order of the text is one of the orders -/
theorem wpOps_of_any (hc : sureB md ops = true) : ∀ (n k : Nat) (fuel : Nat) (listed : Array Bool) (a : Act) (w : World), k + n = ops.size → n ≤ fuel → listed.size = ops.size → (∀ j, listed.getD j true = decide (j < k ∨ ops.size ≤ j)) →
    wpAny P md ops Q fuel listed a w → wpOps P ops Q (List.range' k n) a w := by
  intro n
  induction n with
  | zero =>
    intro k fuel listed a w hk hf hsz hl h
    have hr : Region.ready md ops listed = [] := by
      cases hr : Region.ready md ops listed with
      | nil => rfl
      | cons i l =>
        have hi : i ∈ Region.ready md ops listed := by rw [hr]; exact .head _
        obtain ⟨h1, o, ho, _⟩ := mem_ready.1 hi
        have hlt := (Array.getElem?_eq_some_iff.1 ho).1
        rw [hl i] at h1
        simp at h1
        omega
    cases fuel with
    | zero => exact h.2
    | succ fuel => exact h.1 hr
  | succ n ih =>
    intro k fuel listed a w hk hf hsz hl h
    cases fuel with
    | zero => omega
    | succ fuel =>
      have hlt : k < ops.size := by omega
      have ho : ops[k]? = some ops[k] := Array.getElem?_eq_getElem hlt
      have hready : k ∈ Region.ready md ops listed := mem_ready.2 ⟨by rw [hl k]; simp; omega, _, ho, fun e he hb => by
        have h1 := sureB_after hc ho e he hb
        have h2 := hl e.on
        have h3 : e.on < listed.size := by omega
        simp only [Array.getD_eq_getD_getElem?, Array.getElem?_eq_getElem h3, Option.getD_some] at h2 ⊢
        rw [h2]
        simp
        omega⟩
      rw [List.range'_succ, wpOps_cons]
      refine wpOp_mono (fun a' w' h' => ih (k + 1) fuel _ a' w' (by omega) (by omega) (by simpa using hsz) (fun j => ?_) h') (h.2 k hready)
      by_cases hj : k = j
      · subst hj
        have h3 : k < listed.size := by omega
        simp [h3]
      · rw [getD_set_ne true hj, hl j]
        simp only [decide_eq_decide]
        omega

theorem wp_region_plain {id : Nat} {a : Act} {w : World} (hc : sureB md ops = true) (h : wpAny P md ops Q ops.size (Array.replicate ops.size false) a w) : (Code.region id ops false).wp P Q a w := by
  refine wp_region ?_
  rw [List.range_eq_range']
  refine wpOps_of_any hc ops.size 0 ops.size _ a w (by omega) (Nat.le_refl _) (by simp) (fun j => ?_) h
  rcases Nat.lt_or_ge j ops.size with h' | h'
  · simp [h']
  · simp [h']
theorem wp_region_sureP {id : Nat} {a : Act} {w : World} (F : Act) (S : World → Prop) (vs : List Value) (hc : sureB .any ops = true) (hsel : Region.noSelect ops = true)
    (hF : putAll ops.toList vs a = F) (hQ : ∀ c ts w, Q (.panic c) F w → Q (.panic c) ⟨ts, F.defers⟩ w) (hS : S w) (hop : AllSure P ops Q S F ops.toList) (hend : ∀ w, S w → Q .normal F w) :
    (Code.region id ops false).wp P Q a w :=
  wp_region_plain hc (wpAny_sure hc hsel hQ (Array.replicate ops.size false) (fun i o ho _ => hop.get o (List.mem_of_getElem? (by rw [Array.getElem?_toList]; exact ho))) hend _ _ _ _
    (Nat.le_trans (List.countP_le_length) (by simp)) (by simp) (fun _ h => h) (agree_start hF) hS)
theorem wp_region_ghostP {id : Nat} {a : Act} {w : World} (F : (Nat → Nat) → Act) (S : (Nat → Nat) → (Nat → Bool) → World → Prop) (vs : List Value) (hc : sureB .any ops = true) (hsel : Region.noSelect ops = true)
    (hF : putAll ops.toList vs a = F (fun _ => 0)) (hQ : ∀ g c ts w, Q (.panic c) (F g) w → Q (.panic c) ⟨ts, (F g).defers⟩ w) (hS : ∀ d : Nat → Bool, (∀ j, j < ops.size → d j = false) → S (fun _ => 0) d w)
    (hop : AllGhost P .any ops Q S F 0 ops.toList) (hend : ∀ g w, S g (fun _ => true) w → Q .normal (F g) w) :
    (Code.region id ops false).wp P Q a w :=
  wp_region_plain hc (wpAny_ghost hc hsel hQ (fun i o ho => by have := hop.get i o (by rw [Array.getElem?_toList]; exact ho); rwa [Nat.zero_add] at this) hend _ _ (fun _ => 0) _ _
    (Nat.le_trans (List.countP_le_length) (by simp)) (by simp) (agree_start hF) (hS _ fun j hj => by simp [dn, hj]))

/-- an operation that leaves the world as it is -/
theorem OpGhost.take {i : Nat} {o : Oper} {v : (Nat → Nat) → Value} (hw : ∀ g, Region.wanted o (yielded ops (F g).tmps) = true) (hp : ∀ g, (F g).put o.dst (v g) = F g)
    (h : ∀ g d w, S g d w → (∀ e ∈ o.after, Region.binds md e = true → d e.on = true) → (execOp (F g).eval o).run P w = .ok (.value (v g)) w ∧ S g (up d i true) w) : OpGhost P md ops Q S F i o := fun g d w hS _ hd => by
  rw [if_pos (hw g)]
  unfold Oper.wp
  rw [(h g d w hS hd).1]
  exact ⟨g i, by rw [up_self]; exact hp g, by rw [up_self]; exact (h g d w hS hd).2⟩
/-- one that changes the world -/
theorem OpGhost.act {i : Nat} {o : Oper} {v : (Nat → Nat) → World → Value} {n : (Nat → Nat) → World → Nat} {W : (Nat → Nat) → World → World} (hw : ∀ g, Region.wanted o (yielded ops (F g).tmps) = true) (hp : ∀ g w, (F g).put o.dst (v g w) = F (up g i (n g w)))
    (h : ∀ g d w, S g d w → d i = false → (∀ e ∈ o.after, Region.binds md e = true → d e.on = true) → (execOp (F g).eval o).run P w = .ok (.value (v g w)) (W g w) ∧ S (up g i (n g w)) (up d i true) (W g w)) : OpGhost P md ops Q S F i o := fun g d w hS hi hd => by
  rw [if_pos (hw g)]
  unfold Oper.wp
  rw [(h g d w hS hi hd).1]
  exact ⟨_, hp g w, (h g d w hS hi hd).2⟩
/-- one that has no value -/
theorem OpGhost.skips {i : Nat} {o : Oper} {W : (Nat → Nat) → World → World} (hw : ∀ g, Region.wanted o (yielded ops (F g).tmps) = true) (hp : ∀ g, (F g).put o.dst undef = F g)
    (h : ∀ g d w, S g d w → d i = false → (∀ e ∈ o.after, Region.binds md e = true → d e.on = true) → (execOp (F g).eval o).run P w = .ok .skip (W g w) ∧ S g (up d i true) (W g w)) : OpGhost P md ops Q S F i o := fun g d w hS hi hd => by
  rw [if_pos (hw g)]
  unfold Oper.wp
  rw [(h g d w hS hi hd).1]
  exact ⟨g i, by rw [up_self]; exact hp g, by rw [up_self]; exact (h g d w hS hi hd).2⟩
theorem OpGhost.call {i : Nat} {o : Oper} {v : (Nat → Nat) → Value} {f : FuncId} {args : (Nat → Nat) → Array Value} (hw : ∀ g, Region.wanted o (yielded ops (F g).tmps) = true) (hp : ∀ g, (F g).put o.dst (v g) = F g)
    (h : ∀ g w, (execOp (F g).eval o).run P w = .ok (.enter f (args g)) w)
    (hc : ∀ g d w, S g d w → (∀ e ∈ o.after, Region.binds md e = true → d e.on = true) → Calls P f (args g) w fun e w' => e = .returned (v g) ∧ S g (up d i true) w') : OpGhost P md ops Q S F i o := fun g d w hS _ hd => by
  rw [if_pos (hw g)]
  unfold Oper.wp
  rw [h g w]
  refine (hc g d w hS hd).mono ?_
  rintro e w' ⟨rfl, h'⟩
  exact ⟨g i, by rw [up_self]; exact hp g, by rw [up_self]; exact h'⟩
end
end Go.Proofs.Ytiogegoepgkjlaa
