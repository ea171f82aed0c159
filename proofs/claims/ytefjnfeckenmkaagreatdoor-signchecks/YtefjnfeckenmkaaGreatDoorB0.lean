/-
 A region that draws its order, in which every operation's value is sure: no order is gone through.
 F is the frame in which all temporaries hold what they are to hold behind the region; an operation is looked at once, in F.
-/
import Derived.Deep.RegionHeld
import Derived.Deep.MidRow
import Derived.Laws.Tables
import Derived.Deep.RegionHeld3
import Derived.BigCall
import Derived.Deep.WholeRow
import Derived.WalkKit
import Derived.WalkSpells
import Derived.Deep.QuietTactic
import Derived.BigQuiet
import Derived.BigRegion
import Derived.Test.YtefjnfeckenmkaaGreatDoorRows
import Derived.LoopN
import Derived.IntWalk
import Derived.Laws.Strings2
import Derived.Laws.Bits64b
import Derived.Laws.BitsAllLaws
namespace Go.Proofs.YtefjnfeckenmkaaGreatDoor
open Go
def sureB (md : Region.Mode) (ops : Array Oper) : Bool :=
 (List.range ops.size).all fun i =>
  match ops[i]? with
  | none => true
  | some o => (o.after.all fun e => !Region.binds md e || decide (e.on < i)) &&
   (o.looksAt ops).all fun t => (List.range ops.size).all fun j =>
    match ops[j]? with
    | none => true
    | some oj => oj.dst != some t || o.after.any fun e => Region.binds md e && e.on == j
section
variable {P : Program} {ops : Array Oper} {Q : Exit → Act → World → Prop} {md : Region.Mode} {S : World → Prop} {F : Act}
theorem sureB_after (h : sureB md ops = true) {i : Nat} {o : Oper} (ho : ops[i]? = some o) : ∀ e ∈ o.after, Region.binds md e = true → e.on < i := fun e he hb => by
 have hlt : i < ops.size := (Array.getElem?_eq_some_iff.1 ho).1
 have h1 := (List.all_eq_true.1 h) i (List.mem_range.2 hlt)
 simp only [ho, Bool.and_eq_true] at h1
 have h2 := (Array.all_eq_true_iff_forall_mem.1 h1.1) e he
 simpa [hb] using h2
theorem sureB_looks (h : sureB md ops = true) {i : Nat} {o : Oper} (ho : ops[i]? = some o) {t : Tmp} (ht : t ∈ o.looksAt ops) {j : Nat} {oj : Oper} (hj : ops[j]? = some oj) (hd : oj.dst = some t) :
  ∃ e ∈ o.after, Region.binds md e = true ∧ e.on = j := by
 have hlt : i < ops.size := (Array.getElem?_eq_some_iff.1 ho).1
 have hltj : j < ops.size := (Array.getElem?_eq_some_iff.1 hj).1
 have h1 := (List.all_eq_true.1 h) i (List.mem_range.2 hlt)
 simp only [ho, Bool.and_eq_true] at h1
 have h2 := (List.all_eq_true.1 ((List.all_eq_true.1 h1.2) t ht)) j (List.mem_range.2 hltj)
 simp only [hj, hd, bne_self_eq_false, Bool.false_or] at h2
 obtain ⟨k, hk, h3⟩ := Array.any_eq_true.1 h2
 rw [Bool.and_eq_true, beq_iff_eq] at h3
 exact ⟨_, Array.getElem_mem hk, h3⟩
def Agree (ops : Array Oper) (F : Act) (listed : Array Bool) (a : Act) : Prop :=
 a.defers = F.defers ∧ a.tmps.size = F.tmps.size ∧
 ∀ t, (∀ j o, ops[j]? = some o → o.dst = some t → listed.getD j true = true) → a.tmps[t]? = F.tmps[t]?
def OpSure (P : Program) (ops : Array Oper) (Q : Exit → Act → World → Prop) (S : World → Prop) (F : Act) (o : Oper) : Prop :=
 ∀ w, S w → if Region.wanted o (yielded ops F.tmps) = true then Oper.wp P o F w (fun a' w' => a' = F ∧ S w') Q else F.put o.dst undef = F
theorem getD_true_false {listed : Array Bool} {j : Nat} (h : listed.getD j false = true) : listed.getD j true = true := by
 rcases Nat.lt_or_ge j listed.size with h' | h'
 ·simpa [h'] using h
 ·simp [Array.getElem?_eq_none h'] at h
theorem put_eq_get {d : Tmp} {v : Value} (h : F.put (some d) v = F) (hd : d < F.tmps.size) : F.tmps[d]? = some v := by
 have h1 := congrArg (fun a : Act => a.tmps[d]?) h
 simp only [Act.put] at h1
 rw [← h1, Array.getElem?_setIfInBounds_self_of_lt hd]
theorem Agree.put {listed : Array Bool} {a : Act} {i : Nat} {o : Oper} {v : Value} (h : Agree ops F listed a) (ho : ops[i]? = some o) (hp : F.put o.dst v = F) :
  Agree ops F (listed.setIfInBounds i true) (a.put o.dst v) := by
 obtain ⟨h1, h2, h3⟩ := h
 cases hd : o.dst with
 | none =>
  refine ⟨h1, h2, fun t ht => h3 t fun j oj hj hjd => ?_⟩
  have hne : i ≠ j := fun e => by subst e; rw [ho] at hj; cases hj; rw [hd] at hjd; cases hjd
  have := ht j oj hj hjd
  rwa [getD_set_ne true hne] at this
 | some d =>
  rw [hd] at hp
  refine ⟨h1, by simp [Act.put, h2], fun t ht => ?_⟩
  by_cases htd : d = t
  ·subst htd
   rcases Nat.lt_or_ge d F.tmps.size with hlt | hge
   ·rw [put_eq_get hp hlt]
    simp only [Act.put]
    rw [Array.getElem?_setIfInBounds_self_of_lt (by omega)]
   ·rw [Array.getElem?_eq_none hge, Array.getElem?_eq_none (by simp [Act.put]; omega)]
  ·simp only [Act.put]
   rw [Array.getElem?_setIfInBounds_ne htd]
   refine h3 t fun j oj hj hjd => ?_
   have hne : i ≠ j := fun e => by subst e; rw [ho] at hj; cases hj; rw [hd] at hjd; cases hjd; exact htd rfl
   have := ht j oj hj hjd
   rwa [getD_set_ne true hne] at this
theorem Agree.looks (hc : sureB md ops = true) {listed : Array Bool} {a : Act} {i : Nat} {o : Oper} (h : Agree ops F listed a) (ho : ops[i]? = some o)
  (hall : ∀ e ∈ o.after, Region.binds md e = true → listed.getD e.on false = true) : ∀ t ∈ o.looksAt ops, a.tmps[t]? = F.tmps[t]? := fun t ht =>
 h.2.2 t fun _ _ hj hd => by
  obtain ⟨e, he, hb, rfl⟩ := sureB_looks hc ho ht hj hd
  exact getD_true_false (hall e he hb)
theorem exec_agree {a : Act} {o : Oper} (hs : ∀ cs b, o.op ≠ .select cs b) (h : ∀ t ∈ o.looksAt ops, a.tmps[t]? = F.tmps[t]?) : execOp a.eval o = execOp F.eval o :=
 execOp_congr o hs fun x hx => by
  cases x with
  | tmp t =>
   have ht : t ∈ o.looksAt ops := List.mem_append_left _ (List.mem_filterMap.2 ⟨.tmp t, by simpa using hx, rfl⟩)
   simp only [Act.eval, Array.getD_eq_getD_getElem?, h t ht]
  | _ => rfl
theorem wanted_agree {a : Act} {o : Oper} (h : ∀ t ∈ o.looksAt ops, a.tmps[t]? = F.tmps[t]?) : Region.wanted o (yielded ops a.tmps) = Region.wanted o (yielded ops F.tmps) := by
 unfold Region.wanted
 cases hg : o.guard with
 | none => rfl
 | some gw =>
  obtain ⟨g, want⟩ := gw
  have hy : yielded ops a.tmps g = yielded ops F.tmps g := by
   unfold yielded
   cases ht : (ops[g]?).bind (·.dst) with
   | none => rfl
   | some t =>
    have := h t (by simp [Oper.looksAt, hg, ht])
    simp [this]
  simp only [hy]
theorem OpSure.wpOp (hc : sureB md ops = true) (hsel : Region.noSelect ops = true) (hQ : ∀ c ts w, Q (.panic c) F w → Q (.panic c) ⟨ts, F.defers⟩ w)
  {listed : Array Bool} {a : Act} {w : World} {i : Nat} {o : Oper} (hg : Agree ops F listed a) (ho : ops[i]? = some o)
  (hall : ∀ e ∈ o.after, Region.binds md e = true → listed.getD e.on false = true) (hS : S w) (h : OpSure P ops Q S F o) {K : Act → World → Prop}
  (hK : ∀ a' w', Agree ops F (listed.setIfInBounds i true) a' → S w' → K a' w') : wpOp P ops Q i K a w := by
 have hl := hg.looks hc ho hall
 have he := exec_agree (fun cs b => Region.noSelect_spec hsel i o cs b ho) hl
 have hw := wanted_agree hl
 have hQ' : ∀ c w, Q (.panic c) F w → Q (.panic c) a w := fun c w h => by
  have : a = ⟨a.tmps, F.defers⟩ := by cases a; simp only [Act.mk.injEq, true_and]; exact hg.1
  rw [this]
  exact hQ c _ w h
 have fin : ∀ v w', F.put o.dst v = F → S w' → K (a.put o.dst v) w' := fun v w' hp hs => hK _ _ (hg.put ho hp) hs
 have h := h w hS
 unfold Go.wpOp
 simp only [ho, hw]
 split
 ·rename_i hwt
  simp only [hwt, if_true] at h
  refine .inl ?_
  unfold Oper.wp at h ⊢
  rw [he]
  generalize (execOp F.eval o).run P w = r at h ⊢
  cases r with
  | ok n w' =>
   cases n <;> simp only [Oper.upon] at h ⊢
   case value u => exact fin _ _ h.1 h.2
   case skip => exact fin _ _ h.1 h.2
   case defer d =>
    have := congrArg Act.defers h.1
    cases hd : o.dst <;> simp [Act.put, hd] at this
   case enter f args =>
    refine Calls.mono h fun e w'' he => ?_
    cases e with
    | returned u => exact fin _ _ he.1 he.2
    | panicked c => exact hQ' _ _ he
    | outgrown => exact he
   case row row args => exact Rows.mono h fun u w'' he => fin _ _ he.1 he.2
  | halt x w' =>
   cases x <;> simp only [Oper.upon] at h ⊢
   case panic u => exact hQ' _ _ h
 ·rename_i hwt
  simp only [hwt] at h
  exact fin _ _ h hS
def left (n : Nat) (listed : Array Bool) : Nat := (List.range n).countP fun i => !listed.getD i true
theorem countP_lt {α : Type} {p q : α → Bool} (hpq : ∀ x, p x = true → q x = true) : ∀ (l : List α), (∃ x ∈ l, q x = true ∧ p x = false) → l.countP p < l.countP q
 | [], h => by obtain ⟨x, hx, _⟩ := h; cases hx
 | x :: l, h => by
  have hle : l.countP p ≤ l.countP q := List.countP_mono_left fun x _ => hpq x
  rw [List.countP_cons, List.countP_cons]
  obtain ⟨y, hy, h1, h2⟩ := h
  rcases List.mem_cons.1 hy with rfl | hy'
  ·simp [h1, h2]; omega
  ·have := countP_lt hpq l ⟨y, hy', h1, h2⟩
   cases hp : p x
   ·cases hq : q x <;> simp <;> omega
   ·simp [hpq x hp]; omega
theorem left_set {listed : Array Bool} {i n : Nat} (hi : listed.getD i true = false) (hn : i < n) : left n (listed.setIfInBounds i true) < left n listed := by
 refine countP_lt (fun x hx => ?_) _ ⟨i, List.mem_range.2 hn, by simp only [hi]; rfl, ?_⟩
 ·by_cases h : i = x
  ·subst h
   rcases Nat.lt_or_ge i listed.size with h' | h'
   ·simp [h'] at hx
   ·simp [Array.getElem?_eq_none h'] at hi
  ·rwa [getD_set_ne true h] at hx
 ·rcases Nat.lt_or_ge i listed.size with h' | h'
  ·simp [h']
  ·simp [Array.getElem?_eq_none h'] at hi
theorem all_of_none (hc : sureB md ops = true) {listed : Array Bool} (hsz : listed.size = ops.size) (hr : Region.ready md ops listed = []) : ∀ i, listed.getD i true = true := by
 intro i
 induction i using Nat.strongRecOn with
 | ind i ih =>
  cases h : listed.getD i true with
  | true => rfl
  | false =>
   have hlt : i < listed.size := by
    rcases Nat.lt_or_ge i listed.size with h' | h'
    ·exact h'
    ·simp [Array.getElem?_eq_none h'] at h
   have ho : ops[i]? = some (ops[i]'(by omega)) := Array.getElem?_eq_getElem (by omega)
   have : i ∈ Region.ready md ops listed := mem_ready.2 ⟨h, _, ho, fun e he hb => by
    have hlt' := sureB_after hc ho e he hb
    have h1 := ih e.on hlt'
    have h2 : e.on < listed.size := by omega
    simpa [h2] using h1⟩
   rw [hr] at this
   cases this
theorem agree_all {listed : Array Bool} {a : Act} (h : Agree ops F listed a) (hall : ∀ i, listed.getD i true = true) : a = F := by
 obtain ⟨h1, h2, h3⟩ := h
 have : a.tmps = F.tmps := Array.ext_getElem? fun t => h3 t fun j _ _ _ => hall j
 cases a; cases F; simp_all
theorem wpAny_sure (hc : sureB md ops = true) (hsel : Region.noSelect ops = true) (hQ : ∀ c ts w, Q (.panic c) F w → Q (.panic c) ⟨ts, F.defers⟩ w)
  (listed0 : Array Bool) (hop : ∀ i o, ops[i]? = some o → listed0.getD i true = false → OpSure P ops Q S F o) (hend : ∀ w, S w → Q .normal F w) :
  ∀ (fuel : Nat) (listed : Array Bool) (a : Act) (w : World), left ops.size listed ≤ fuel → listed.size = ops.size → (∀ i, listed0.getD i true = true → listed.getD i true = true) →
   Agree ops F listed a → S w → wpAny P md ops Q fuel listed a w := by
 intro fuel
 induction fuel with
 | zero =>
  intro listed a w hf hsz h0 hg hS
  have hr : Region.ready md ops listed = [] := by
   cases hr : Region.ready md ops listed with
   | nil => rfl
   | cons i l =>
    have hi : i ∈ Region.ready md ops listed := by rw [hr]; exact .head _
    obtain ⟨h1, o, ho, _⟩ := mem_ready.1 hi
    have := left_set h1 (Array.getElem?_eq_some_iff.1 ho).1
    omega
  exact ⟨hr, by rw [agree_all hg (all_of_none hc hsz hr)]; exact hend w hS⟩
 | succ fuel ih =>
  intro listed a w hf hsz h0 hg hS
  refine ⟨fun hr => by rw [agree_all hg (all_of_none hc hsz hr)]; exact hend w hS, fun i hi => ?_⟩
  obtain ⟨h1, o, ho, hall⟩ := mem_ready.1 hi
  have hn0 : listed0.getD i true = false := by
   cases h : listed0.getD i true with
   | false => rfl
   | true => rw [h0 i h] at h1; cases h1
  have hlt := left_set h1 (Array.getElem?_eq_some_iff.1 ho).1
  refine (hop i o ho hn0).wpOp hc hsel hQ hg ho hall hS fun a' w' hg' hS' => ih _ _ _ (by omega) (by simpa using hsz) (fun j hj => ?_) hg' hS'
  by_cases hij : i = j
  ·subst hij; rw [hn0] at hj; cases hj
  ·rw [getD_set_ne true hij]; exact h0 j hj
def putAll (ops : List Oper) (vs : List Value) (a : Act) : Act :=
 match ops, vs with
 | o :: ops, v :: vs => putAll ops vs (a.put o.dst v)
 | _, _ => a
theorem putAll_defers : ∀ (os : List Oper) (vs : List Value) (a : Act), (putAll os vs a).defers = a.defers
 | [], _, _ => rfl
 | _ :: _, [], _ => rfl
 | o :: os, v :: vs, a => by
  rw [putAll, putAll_defers os vs]
  cases o.dst <;> rfl
theorem putAll_size : ∀ (os : List Oper) (vs : List Value) (a : Act), (putAll os vs a).tmps.size = a.tmps.size
 | [], _, _ => rfl
 | _ :: _, [], _ => rfl
 | o :: os, v :: vs, a => by
  rw [putAll, putAll_size os vs]
  cases o.dst <;> simp [Act.put]
theorem putAll_get {t : Tmp} : ∀ (os : List Oper) (vs : List Value) (a : Act), (∀ o ∈ os, o.dst ≠ some t) → (putAll os vs a).tmps[t]? = a.tmps[t]?
 | [], _, _, _ => rfl
 | _ :: _, [], _, _ => rfl
 | o :: os, v :: vs, a, h => by
  rw [putAll, putAll_get os vs _ fun o ho => h o (.tail _ ho)]
  cases hd : o.dst with
  | none => rfl
  | some d =>
   have : d ≠ t := fun e => h o (.head _) (by rw [hd, e])
   simp only [Act.put]
   rw [Array.getElem?_setIfInBounds_ne this]
theorem agree_start {a : Act} {vs : List Value} (hF : putAll ops.toList vs a = F) : Agree ops F (Array.replicate ops.size false) a := by
 subst hF
 refine ⟨(putAll_defers _ _ _).symm, (putAll_size _ _ _).symm, fun t ht => (putAll_get _ _ _ fun o ho hd => ?_).symm⟩
 obtain ⟨j, hj⟩ := List.mem_iff_getElem?.1 ho
 rw [Array.getElem?_toList] at hj
 have hlt : j < ops.size := (Array.getElem?_eq_some_iff.1 hj).1
 have := ht j o hj hd
 simp [hlt] at this
def AllSure (P : Program) (ops : Array Oper) (Q : Exit → Act → World → Prop) (S : World → Prop) (F : Act) : List Oper → Prop
 | [] => True
 | o :: os => OpSure P ops Q S F o ∧ AllSure P ops Q S F os
theorem AllSure.nil : AllSure P ops Q S F [] := trivial
theorem AllSure.cons {o : Oper} {os : List Oper} (h : OpSure P ops Q S F o) (hs : AllSure P ops Q S F os) : AllSure P ops Q S F (o :: os) := ⟨h, hs⟩
theorem AllSure.get {os : List Oper} (h : AllSure P ops Q S F os) : ∀ o ∈ os, OpSure P ops Q S F o := by
 induction os with
 | nil => intro o ho; cases ho
 | cons x xs ih =>
  intro o ho
  rcases List.mem_cons.1 ho with rfl | ho
  ·exact h.1
  ·exact ih h.2 o ho
theorem wp_region_sure {id : Nat} {a : Act} {w : World} (F : Act) (S : World → Prop) (vs : List Value) (hm : P.follows .mixedOrders = true) (hc : sureB .any ops = true) (hsel : Region.noSelect ops = true)
  (hF : putAll ops.toList vs a = F) (hQ : ∀ c ts w, Q (.panic c) F w → Q (.panic c) ⟨ts, F.defers⟩ w) (hS : S w.drew) (hop : AllSure P ops Q S F ops.toList) (hend : ∀ w, S w → Q .normal F w) :
  (Code.region id ops true).wp P Q a w :=
 wp_region_any hm (wpAny_sure hc hsel hQ (Array.replicate ops.size false) (fun i o ho _ => hop.get o (List.mem_of_getElem? (by rw [Array.getElem?_toList]; exact ho))) hend _ _ _ _
  (Nat.le_trans (List.countP_le_length) (by simp)) (by simp) (fun _ h => h) (agree_start hF) hS)
theorem OpSure.take {o : Oper} {v : Value} (hw : Region.wanted o (yielded ops F.tmps) = true) (hp : F.put o.dst v = F) (h : ∀ w, S w → (execOp F.eval o).run P w = .ok (.value v) w) : OpSure P ops Q S F o := fun w hS => by
 rw [if_pos hw]
 unfold Oper.wp
 rw [h w hS]
 exact ⟨hp, hS⟩
theorem OpSure.skip {o : Oper} (hw : Region.wanted o (yielded ops F.tmps) = false) (hp : F.put o.dst undef = F) : OpSure P ops Q S F o := fun w hS => by
 rw [if_neg (by rw [hw]; decide)]
 exact hp
theorem OpSure.call {o : Oper} {v : Value} {f : FuncId} {args : Array Value} (hw : Region.wanted o (yielded ops F.tmps) = true) (hp : F.put o.dst v = F)
  (h : ∀ w, S w → (execOp F.eval o).run P w = .ok (.enter f args) w) (hc : ∀ w, S w → Calls P f args w fun e w' => e = .returned v ∧ S w') : OpSure P ops Q S F o := fun w hS => by
 rw [if_pos hw]
 unfold Oper.wp
 rw [h w hS]
 refine (hc w hS).mono ?_
 rintro e w' ⟨rfl, h'⟩
 exact ⟨hp, h'⟩
end
section
variable {P : Program} {ops : Array Oper} {Q : Exit → Act → World → Prop} {S : World → Prop} {F : Act} {o : Oper} {os : List Oper}
theorem zsp (v : Value) (hs : AllSure P ops Q S F os) (hw : Region.wanted o (yielded ops F.tmps) = true := by kernel_rfl) (hp : F.put o.dst v = F := by kernel_rfl) (h : ∀ w, S w → (execOp F.eval o).run P w = .ok (.value v) w := by intro _ _; kernel_rfl) : AllSure P ops Q S F (o :: os) := .cons (.take hw hp h) hs
theorem zst {v : Value} (h : ∀ w, S w → (execOp F.eval o).run P w = .ok (.value v) w) (hs : AllSure P ops Q S F os) (hw : Region.wanted o (yielded ops F.tmps) = true := by kernel_rfl) (hp : F.put o.dst v = F := by kernel_rfl) : AllSure P ops Q S F (o :: os) := .cons (.take hw hp h) hs
theorem zsk (hs : AllSure P ops Q S F os) (hw : Region.wanted o (yielded ops F.tmps) = false := by kernel_rfl) (hp : F.put o.dst undef = F := by kernel_rfl) : AllSure P ops Q S F (o :: os) := .cons (.skip hw hp) hs
end
end Go.Proofs.YtefjnfeckenmkaaGreatDoor

namespace Go.Proofs.YtefjnfeckenmkaaGreatDoor
open Go
def up {α : Type} (f : Nat → α) (i : Nat) (v : α) : Nat → α := fun j => if j = i then v else f j
theorem up_self {α : Type} (f : Nat → α) (i : Nat) : up f i (f i) = f := by
 funext j
 unfold up
 split
 ·rename_i h; rw [h]
 ·rfl
theorem up_at {α : Type} (f : Nat → α) (i : Nat) (v : α) : up f i v i = v := if_pos rfl
theorem up_ne {α : Type} (f : Nat → α) {i j : Nat} (v : α) (h : j ≠ i) : up f i v j = f j := if_neg h
section
variable {P : Program} {ops : Array Oper} {Q : Exit → Act → World → Prop} {md : Region.Mode} {S : (Nat → Nat) → (Nat → Bool) → World → Prop} {F : (Nat → Nat) → Act}
def dn (listed : Array Bool) : Nat → Bool := fun j => listed.getD j true
theorem dn_set {listed : Array Bool} {i : Nat} : dn (listed.setIfInBounds i true) = up (dn listed) i true := by
 funext j
 unfold dn up
 split
 ·rename_i h
  subst h
  rcases Nat.lt_or_ge j listed.size with h' | h'
  ·simp [h']
  ·simp
 ·rename_i h
  exact getD_set_ne true (Ne.symm h)
def OpGhost (P : Program) (md : Region.Mode) (ops : Array Oper) (Q : Exit → Act → World → Prop) (S : (Nat → Nat) → (Nat → Bool) → World → Prop) (F : (Nat → Nat) → Act) (i : Nat) (o : Oper) : Prop :=
 ∀ g d w, S g d w → d i = false → (∀ e ∈ o.after, Region.binds md e = true → d e.on = true) →
  if Region.wanted o (yielded ops (F g).tmps) = true then Oper.wp P o (F g) w (fun a' w' => ∃ n, a' = F (up g i n) ∧ S (up g i n) (up d i true) w') Q else (F g).put o.dst undef = F g ∧ S g (up d i true) w
theorem Agree.put2 {listed : Array Bool} {a F F' : Act} {i : Nat} {o : Oper} {v : Value} (h : Agree ops F listed a) (ho : ops[i]? = some o) (hp : F.put o.dst v = F') :
  Agree ops F' (listed.setIfInBounds i true) (a.put o.dst v) := by
 obtain ⟨h1, h2, h3⟩ := h
 subst hp
 cases hd : o.dst with
 | none =>
  refine ⟨h1, h2, fun t ht => h3 t fun j oj hj hjd => ?_⟩
  have hne : i ≠ j := fun e => by subst e; rw [ho] at hj; cases hj; rw [hd] at hjd; cases hjd
  have := ht j oj hj hjd
  rwa [getD_set_ne true hne] at this
 | some d =>
  refine ⟨h1, by simp [Act.put, h2], fun t ht => ?_⟩
  by_cases htd : d = t
  ·subst htd
   simp only [Act.put]
   rcases Nat.lt_or_ge d F.tmps.size with hlt | hge
   ·rw [Array.getElem?_setIfInBounds_self_of_lt hlt, Array.getElem?_setIfInBounds_self_of_lt (by omega)]
   ·rw [Array.getElem?_eq_none (by simp; omega), Array.getElem?_eq_none (by simp; omega)]
  ·simp only [Act.put]
   rw [Array.getElem?_setIfInBounds_ne htd, Array.getElem?_setIfInBounds_ne htd]
   refine h3 t fun j oj hj hjd => ?_
   have hne : i ≠ j := fun e => by subst e; rw [ho] at hj; cases hj; rw [hd] at hjd; cases hjd; exact htd rfl
   have := ht j oj hj hjd
   rwa [getD_set_ne true hne] at this
theorem OpGhost.wpOp (hc : sureB md ops = true) (hsel : Region.noSelect ops = true) (hQ : ∀ g c ts w, Q (.panic c) (F g) w → Q (.panic c) ⟨ts, (F g).defers⟩ w)
  {listed : Array Bool} {a : Act} {w : World} {g : Nat → Nat} {i : Nat} {o : Oper} (hg : Agree ops (F g) listed a) (ho : ops[i]? = some o) (hi : listed.getD i true = false)
  (hall : ∀ e ∈ o.after, Region.binds md e = true → listed.getD e.on false = true) (hS : S g (dn listed) w) (h : OpGhost P md ops Q S F i o) {K : Act → World → Prop}
  (hK : ∀ g' a' w', Agree ops (F g') (listed.setIfInBounds i true) a' → S g' (dn (listed.setIfInBounds i true)) w' → K a' w') : wpOp P ops Q i K a w := by
 have hl := hg.looks hc ho hall
 have he := exec_agree (fun cs b => Region.noSelect_spec hsel i o cs b ho) hl
 have hw := wanted_agree hl
 have hQ' : ∀ c w, Q (.panic c) (F g) w → Q (.panic c) a w := fun c w h => by
  have : a = ⟨a.tmps, (F g).defers⟩ := by cases a; simp only [Act.mk.injEq, true_and]; exact hg.1
  rw [this]
  exact hQ g c _ w h
 have fin : ∀ v w', (∃ n, (F g).put o.dst v = F (up g i n) ∧ S (up g i n) (up (dn listed) i true) w') → K (a.put o.dst v) w' := fun v w' ⟨n, hp, hs⟩ => hK _ _ _ (hg.put2 ho hp) (by rw [dn_set]; exact hs)
 have h := h g (dn listed) w hS hi (fun e he hb => getD_true_false (hall e he hb))
 unfold Go.wpOp
 simp only [ho, hw]
 split
 ·rename_i hwt
  simp only [hwt, if_true] at h
  refine .inl ?_
  unfold Oper.wp at h ⊢
  rw [he]
  generalize (execOp (F g).eval o).run P w = r at h ⊢
  cases r with
  | ok n w' =>
   cases n <;> simp only [Oper.upon] at h ⊢
   case value u => exact fin _ _ h
   case skip => exact fin _ _ h
   case defer d =>
    obtain ⟨m, h1, h2⟩ := h
    refine hK _ _ _ ?_ (by rw [dn_set]; exact h2)
    have hb : Agree ops { F g with defers := d :: (F g).defers } listed { a with defers := d :: a.defers } := ⟨by rw [hg.1], hg.2.1, hg.2.2⟩
    exact hb.put2 ho h1
   case enter f args =>
    refine Calls.mono h fun e w'' he => ?_
    cases e with
    | returned u => exact fin _ _ he
    | panicked c => exact hQ' _ _ he
    | outgrown => exact he
   case row row args => exact Rows.mono h fun u w'' he => fin _ _ he
  | halt x w' =>
   cases x <;> simp only [Oper.upon] at h ⊢
   case panic u => exact hQ' _ _ h
 ·rename_i hwt
  simp only [hwt] at h
  exact fin _ _ ⟨g i, by rw [up_self]; exact h⟩
theorem wpAny_ghost (hc : sureB md ops = true) (hsel : Region.noSelect ops = true) (hQ : ∀ g c ts w, Q (.panic c) (F g) w → Q (.panic c) ⟨ts, (F g).defers⟩ w)
  (hop : ∀ i o, ops[i]? = some o → OpGhost P md ops Q S F i o) (hend : ∀ g w, S g (fun _ => true) w → Q .normal (F g) w) :
  ∀ (fuel : Nat) (listed : Array Bool) (g : Nat → Nat) (a : Act) (w : World), left ops.size listed ≤ fuel → listed.size = ops.size →
   Agree ops (F g) listed a → S g (dn listed) w → wpAny P md ops Q fuel listed a w := by
 have fin : ∀ (listed : Array Bool) (g : Nat → Nat) (a : Act) (w : World), listed.size = ops.size → Agree ops (F g) listed a → S g (dn listed) w → Region.ready md ops listed = [] → Q .normal a w := fun listed g a w hsz hg hS hr => by
  have hall := all_of_none hc hsz hr
  rw [agree_all hg hall]
  have : dn listed = fun _ => true := funext hall
  rw [this] at hS
  exact hend g w hS
 intro fuel
 induction fuel with
 | zero =>
  intro listed g a w hf hsz hg hS
  have hr : Region.ready md ops listed = [] := by
   cases hr : Region.ready md ops listed with
   | nil => rfl
   | cons i l =>
    have hi : i ∈ Region.ready md ops listed := by rw [hr]; exact .head _
    obtain ⟨h1, o, ho, _⟩ := mem_ready.1 hi
    have := left_set h1 (Array.getElem?_eq_some_iff.1 ho).1
    omega
  exact ⟨hr, fin listed g a w hsz hg hS hr⟩
 | succ fuel ih =>
  intro listed g a w hf hsz hg hS
  refine ⟨fin listed g a w hsz hg hS, fun i hi => ?_⟩
  obtain ⟨h1, o, ho, hall⟩ := mem_ready.1 hi
  have hlt := left_set h1 (Array.getElem?_eq_some_iff.1 ho).1
  exact (hop i o ho).wpOp hc hsel hQ hg ho h1 hall hS fun g' a' w' hg' hS' => ih _ g' _ _ (by omega) (by simpa using hsz) hg' hS'
def AllGhost (P : Program) (md : Region.Mode) (ops : Array Oper) (Q : Exit → Act → World → Prop) (S : (Nat → Nat) → (Nat → Bool) → World → Prop) (F : (Nat → Nat) → Act) : Nat → List Oper → Prop
 | _, [] => True
 | i, o :: os => OpGhost P md ops Q S F i o ∧ AllGhost P md ops Q S F (i + 1) os
theorem AllGhost.nil {i : Nat} : AllGhost P md ops Q S F i [] := trivial
theorem AllGhost.cons {i : Nat} {o : Oper} {os : List Oper} (h : OpGhost P md ops Q S F i o) (hs : AllGhost P md ops Q S F (i + 1) os) : AllGhost P md ops Q S F i (o :: os) := ⟨h, hs⟩
theorem AllGhost.get : ∀ {os : List Oper} {k : Nat}, AllGhost P md ops Q S F k os → ∀ i o, os[i]? = some o → OpGhost P md ops Q S F (k + i) o := by
  intro os
  induction os with
  | nil => intro k _ i o ho; simp at ho
  | cons x xs ih =>
    intro k h i o ho
    cases i with
    | zero => obtain rfl : x = o := by simpa using ho
              exact h.1
    | succ i =>
      have := ih h.2 i o (by simpa using ho)
      rwa [Nat.add_right_comm, Nat.add_assoc] at this
theorem wp_region_ghost {id : Nat} {a : Act} {w : World} (F : (Nat → Nat) → Act) (S : (Nat → Nat) → (Nat → Bool) → World → Prop) (vs : List Value) (hm : P.follows .mixedOrders = true) (hc : sureB .any ops = true) (hsel : Region.noSelect ops = true)
  (hF : putAll ops.toList vs a = F (fun _ => 0)) (hQ : ∀ g c ts w, Q (.panic c) (F g) w → Q (.panic c) ⟨ts, (F g).defers⟩ w) (hS : ∀ d : Nat → Bool, (∀ j, j < ops.size → d j = false) → S (fun _ => 0) d w.drew)
  (hop : AllGhost P .any ops Q S F 0 ops.toList) (hend : ∀ g w, S g (fun _ => true) w → Q .normal (F g) w) :
  (Code.region id ops true).wp P Q a w :=
 wp_region_any hm (wpAny_ghost hc hsel hQ (fun i o ho => by have := hop.get i o (by rw [Array.getElem?_toList]; exact ho); rwa [Nat.zero_add] at this) hend _ _ (fun _ => 0) _ _
  (Nat.le_trans (List.countP_le_length) (by simp)) (by simp) (agree_start hF) (hS _ fun j hj => by simp [dn, hj]))
theorem OpGhost.take {i : Nat} {o : Oper} {v : (Nat → Nat) → Value} (hw : ∀ g, Region.wanted o (yielded ops (F g).tmps) = true) (hp : ∀ g, (F g).put o.dst (v g) = F g)
  (h : ∀ g d w, S g d w → (∀ e ∈ o.after, Region.binds md e = true → d e.on = true) → (execOp (F g).eval o).run P w = .ok (.value (v g)) w ∧ S g (up d i true) w) : OpGhost P md ops Q S F i o := fun g d w hS _ hd => by
 rw [if_pos (hw g)]
 unfold Oper.wp
 rw [(h g d w hS hd).1]
 exact ⟨g i, by rw [up_self]; exact hp g, by rw [up_self]; exact (h g d w hS hd).2⟩
theorem OpGhost.act {i : Nat} {o : Oper} {v : (Nat → Nat) → World → Value} {n : (Nat → Nat) → World → Nat} {W : (Nat → Nat) → World → World} (hw : ∀ g, Region.wanted o (yielded ops (F g).tmps) = true) (hp : ∀ g w, (F g).put o.dst (v g w) = F (up g i (n g w)))
  (h : ∀ g d w, S g d w → d i = false → (∀ e ∈ o.after, Region.binds md e = true → d e.on = true) → (execOp (F g).eval o).run P w = .ok (.value (v g w)) (W g w) ∧ S (up g i (n g w)) (up d i true) (W g w)) : OpGhost P md ops Q S F i o := fun g d w hS hi hd => by
 rw [if_pos (hw g)]
 unfold Oper.wp
 rw [(h g d w hS hi hd).1]
 exact ⟨_, hp g w, (h g d w hS hi hd).2⟩
theorem OpGhost.skips {i : Nat} {o : Oper} {W : (Nat → Nat) → World → World} (hw : ∀ g, Region.wanted o (yielded ops (F g).tmps) = true) (hp : ∀ g, (F g).put o.dst undef = F g)
  (h : ∀ g d w, S g d w → d i = false → (∀ e ∈ o.after, Region.binds md e = true → d e.on = true) → (execOp (F g).eval o).run P w = .ok .skip (W g w) ∧ S g (up d i true) (W g w)) : OpGhost P md ops Q S F i o := fun g d w hS hi hd => by
 rw [if_pos (hw g)]
 unfold Oper.wp
 rw [(h g d w hS hi hd).1]
 exact ⟨g i, by rw [up_self]; exact hp g, by rw [up_self]; exact (h g d w hS hi hd).2⟩
theorem OpGhost.call {i : Nat} {o : Oper} {v : (Nat → Nat) → Value} {f : FuncId} {args : (Nat → Nat) → Array Value} (hw : ∀ g, Region.wanted o (yielded ops (F g).tmps) = true) (hp : ∀ g, (F g).put o.dst (v g) = F g)
  (h : ∀ g w, (execOp (F g).eval o).run P w = .ok (.enter f (args g)) w)
  (hc : ∀ g d w, S g d w → (∀ e ∈ o.after, Region.binds md e = true → d e.on = true) → Calls P f (args g) w fun e w' => e = .returned (v g) ∧ S g (up d i true) w') : OpGhost P md ops Q S F i o := fun g d w hS _ hd => by
 rw [if_pos (hw g)]
 unfold Oper.wp
 rw [h g w]
 refine (hc g d w hS hd).mono ?_
 rintro e w' ⟨rfl, h'⟩
 exact ⟨g i, by rw [up_self]; exact hp g, by rw [up_self]; exact h'⟩
end
end Go.Proofs.YtefjnfeckenmkaaGreatDoor

namespace Go.Proofs.YtefjnfeckenmkaaGreatDoor
open Go
def moved? (o : Oper) : Option Tmp :=
 match o.op, o.guard with
 | .move (.tmp t), none => some t
 | _, _ => none
def sureB2 (old : List Nat) (md : Region.Mode) (ops : Array Oper) : Bool :=
 (List.range ops.size).all fun i =>
  match ops[i]? with
  | none => true
  | some o => (o.after.all fun e => !Region.binds md e || decide (e.on < i)) &&
   if old.contains i then
    (match moved? o with
     | none => false
     | some t => (List.range ops.size).all fun j =>
      match ops[j]? with
      | none => true
      | some oj => oj.dst != some t || oj.after.any fun e => Region.binds md e && e.on == i)
   else
    (o.looksAt ops).all fun t => (List.range ops.size).all fun j =>
     match ops[j]? with
     | none => true
     | some oj => oj.dst != some t || o.after.any fun e => Region.binds md e && e.on == j
section
variable {P : Program} {ops : Array Oper} {Q : Exit → Act → World → Prop} {md : Region.Mode} {S : (Nat → Nat) → (Nat → Bool) → World → Prop} {F : (Nat → Nat) → Act} {old : List Nat} {a0 : Act}
theorem sureB2_at (h : sureB2 old md ops = true) {i : Nat} {o : Oper} (ho : ops[i]? = some o) : (∀ e ∈ o.after, Region.binds md e = true → e.on < i) ∧
  (old.contains i = true → ∃ t, moved? o = some t ∧ ∀ (j : Nat) (oj : Oper), ops[j]? = some oj → oj.dst = some t → ∃ e ∈ oj.after, Region.binds md e = true ∧ e.on = i) ∧
  (old.contains i = false → ∀ t ∈ o.looksAt ops, ∀ (j : Nat) (oj : Oper), ops[j]? = some oj → oj.dst = some t → ∃ e ∈ o.after, Region.binds md e = true ∧ e.on = j) := by
 have hlt : i < ops.size := (Array.getElem?_eq_some_iff.1 ho).1
 have h1 := (List.all_eq_true.1 h) i (List.mem_range.2 hlt)
 simp only [ho, Bool.and_eq_true] at h1
 refine ⟨fun e he hb => ?_, fun hc => ?_, fun hc t ht j oj hj hd => ?_⟩
 ·have h2 := (Array.all_eq_true_iff_forall_mem.1 h1.1) e he
  simpa [hb] using h2
 ·have h2 := h1.2
  rw [if_pos hc] at h2
  cases hm : moved? o with
  | none => rw [hm] at h2; cases h2
  | some t =>
   rw [hm] at h2
   refine ⟨t, rfl, fun j oj hj hd => ?_⟩
   have hltj : j < ops.size := (Array.getElem?_eq_some_iff.1 hj).1
   have h3 := (List.all_eq_true.1 h2) j (List.mem_range.2 hltj)
   simp only [hj, hd, bne_self_eq_false, Bool.false_or] at h3
   obtain ⟨k, hk, h4⟩ := Array.any_eq_true.1 h3
   rw [Bool.and_eq_true, beq_iff_eq] at h4
   exact ⟨_, Array.getElem_mem hk, h4⟩
 ·have h2 := h1.2
  rw [if_neg (by rw [hc]; decide)] at h2
  have hltj : j < ops.size := (Array.getElem?_eq_some_iff.1 hj).1
  have h3 := (List.all_eq_true.1 ((List.all_eq_true.1 h2) t ht)) j (List.mem_range.2 hltj)
  simp only [hj, hd, bne_self_eq_false, Bool.false_or] at h3
  obtain ⟨k, hk, h4⟩ := Array.any_eq_true.1 h3
  rw [Bool.and_eq_true, beq_iff_eq] at h4
  exact ⟨_, Array.getElem_mem hk, h4⟩
structure Fresh (ops : Array Oper) (md : Region.Mode) (a0 : Act) (listed : Array Bool) (a : Act) : Prop where
 was : ∀ t, (∀ (j : Nat) (o : Oper), ops[j]? = some o → o.dst = some t → listed.getD j true = false) → a.tmps[t]? = a0.tmps[t]?
 closed : ∀ (j : Nat) (o : Oper), ops[j]? = some o → listed.getD j true = true → ∀ e ∈ o.after, Region.binds md e = true → listed.getD e.on true = true
theorem Fresh.put {listed : Array Bool} {a : Act} {i : Nat} {o : Oper} {v : Value} (h : Fresh ops md a0 listed a) (hsz : listed.size = ops.size) (ho : ops[i]? = some o) (hall : ∀ e ∈ o.after, Region.binds md e = true → listed.getD e.on false = true) :
  Fresh ops md a0 (listed.setIfInBounds i true) (a.put o.dst v) := by
 have hlt : i < listed.size := by rw [hsz]; exact (Array.getElem?_eq_some_iff.1 ho).1
 have mono : ∀ j, listed.getD j true = true → (listed.setIfInBounds i true).getD j true = true := fun j hj => by
  by_cases hij : i = j
  ·subst hij; simp [hlt]
  ·rw [getD_set_ne true hij]; exact hj
 refine ⟨fun t ht => ?_, fun j oj hj hl e he hb => ?_⟩
 ·have hne : o.dst ≠ some t := fun hd => by
   have := ht i o ho hd
   simp [hlt] at this
  have h1 : a.tmps[t]? = a0.tmps[t]? := h.was t fun j oj hj hd => by
   have h2 := ht j oj hj hd
   by_cases hij : i = j
   ·subst hij; simp [hlt] at h2
   ·rwa [getD_set_ne true hij] at h2
  rw [← h1]
  cases hd : o.dst with
  | none => rfl
  | some d =>
   simp only [Act.put]
   exact Array.getElem?_setIfInBounds_ne (fun e => hne (by rw [hd, e]))
 ·refine mono _ ?_
  by_cases hij : i = j
  ·subst hij
   rw [ho] at hj
   cases hj
   exact getD_true_false (hall e he hb)
  ·rw [getD_set_ne true hij] at hl
   exact h.closed j oj hj hl e he hb
def OpOld (S : (Nat → Nat) → (Nat → Bool) → World → Prop) (F : (Nat → Nat) → Act) (a0 : Act) (i : Nat) (o : Oper) : Prop :=
 ∃ t d ty pos aft, o = ⟨some d, .move (.tmp t), ty, pos, aft, none⟩ ∧ (∀ g, (F g).put (some d) (a0.tmps.getD t undef) = F g) ∧ ∀ g d w, S g d w → S g (up d i true) w
theorem Agree.looks2 {listed : Array Bool} {a F : Act} {i : Nat} {o : Oper} (hc : sureB2 old md ops = true) (hn : old.contains i = false) (h : Agree ops F listed a) (ho : ops[i]? = some o)
  (hall : ∀ e ∈ o.after, Region.binds md e = true → listed.getD e.on false = true) : ∀ t ∈ o.looksAt ops, a.tmps[t]? = F.tmps[t]? := fun t ht =>
 h.2.2 t fun j oj hj hd => by
  obtain ⟨e, he, hb, rfl⟩ := (sureB2_at hc ho).2.2 hn t ht j oj hj hd
  exact getD_true_false (hall e he hb)
theorem OpGhost.wpOp2 (hc : sureB2 old md ops = true) (hsel : Region.noSelect ops = true) (hQ : ∀ g c ts w, Q (.panic c) (F g) w → Q (.panic c) ⟨ts, (F g).defers⟩ w)
  {listed : Array Bool} {a : Act} {w : World} {g : Nat → Nat} {i : Nat} {o : Oper} (hn : old.contains i = false) (hsz : listed.size = ops.size) (hf : Fresh ops md a0 listed a) (hg : Agree ops (F g) listed a) (ho : ops[i]? = some o) (hi : listed.getD i true = false)
  (hall : ∀ e ∈ o.after, Region.binds md e = true → listed.getD e.on false = true) (hS : S g (dn listed) w) (h : OpGhost P md ops Q S F i o) {K : Act → World → Prop}
  (hK : ∀ g' a' w', Fresh ops md a0 (listed.setIfInBounds i true) a' → Agree ops (F g') (listed.setIfInBounds i true) a' → S g' (dn (listed.setIfInBounds i true)) w' → K a' w') : Go.wpOp P ops Q i K a w := by
 have hl := hg.looks2 hc hn ho hall
 have he := exec_agree (fun cs b => Region.noSelect_spec hsel i o cs b ho) hl
 have hw := wanted_agree hl
 have hQ' : ∀ c w, Q (.panic c) (F g) w → Q (.panic c) a w := fun c w h => by
  have : a = ⟨a.tmps, (F g).defers⟩ := by cases a; simp only [Act.mk.injEq, true_and]; exact hg.1
  rw [this]
  exact hQ g c _ w h
 have fin : ∀ v w', (∃ n, (F g).put o.dst v = F (up g i n) ∧ S (up g i n) (up (dn listed) i true) w') → K (a.put o.dst v) w' := fun v w' ⟨n, hp, hs⟩ => hK _ _ _ (hf.put hsz ho hall) (hg.put2 ho hp) (by rw [dn_set]; exact hs)
 have h := h g (dn listed) w hS hi (fun e he hb => getD_true_false (hall e he hb))
 unfold Go.wpOp
 simp only [ho, hw]
 split
 ·rename_i hwt
  simp only [hwt, if_true] at h
  refine .inl ?_
  unfold Oper.wp at h ⊢
  rw [he]
  generalize (execOp (F g).eval o).run P w = r at h ⊢
  cases r with
  | ok n w' =>
   cases n <;> simp only [Oper.upon] at h ⊢
   case value u => exact fin _ _ h
   case skip => exact fin _ _ h
   case defer d =>
    obtain ⟨m, h1, h2⟩ := h
    refine hK _ _ _ (?_ : Fresh ops md a0 _ (Act.put { a with defers := d :: a.defers } _ _)) ?_ (by rw [dn_set]; exact h2)
    ·have hb : Fresh ops md a0 listed { a with defers := d :: a.defers } := ⟨hf.was, hf.closed⟩
     exact hb.put hsz ho hall
    ·have hb : Agree ops { F g with defers := d :: (F g).defers } listed { a with defers := d :: a.defers } := ⟨by rw [hg.1], hg.2.1, hg.2.2⟩
     exact hb.put2 ho h1
   case enter f args =>
    refine Calls.mono h fun e w'' he => ?_
    cases e with
    | returned u => exact fin _ _ he
    | panicked c => exact hQ' _ _ he
    | outgrown => exact he
   case row row args => exact Rows.mono h fun u w'' he => fin _ _ he
  | halt x w' =>
   cases x <;> simp only [Oper.upon] at h ⊢
   case panic u => exact hQ' _ _ h
 ·rename_i hwt
  simp only [hwt] at h
  exact fin _ _ ⟨g i, by rw [up_self]; exact h⟩
theorem OpOld.wpOp {listed : Array Bool} {a : Act} {w : World} {g : Nat → Nat} {i : Nat} {o : Oper} (hc : sureB2 old md ops = true) (hn : old.contains i = true) (hsz : listed.size = ops.size) (hf : Fresh ops md a0 listed a) (hg : Agree ops (F g) listed a) (ho : ops[i]? = some o) (hi : listed.getD i true = false)
  (hall : ∀ e ∈ o.after, Region.binds md e = true → listed.getD e.on false = true) (hS : S g (dn listed) w) (h : OpOld S F a0 i o) {K : Act → World → Prop}
  (hK : ∀ g' a' w', Fresh ops md a0 (listed.setIfInBounds i true) a' → Agree ops (F g') (listed.setIfInBounds i true) a' → S g' (dn (listed.setIfInBounds i true)) w' → K a' w') : Go.wpOp P ops Q i K a w := by
 obtain ⟨t, d, ty, pos, aft, rfl, hp, hs⟩ := h
 obtain ⟨t', ht', hwr⟩ := (sureB2_at hc ho).2.1 hn
 obtain rfl : t = t' := Option.some.inj ht'
 have hw : a.tmps[t]? = a0.tmps[t]? := hf.was t fun j oj hj hd => by
  obtain ⟨e, he, hb, rfl⟩ := hwr j oj hj hd
  cases hl : listed.getD j true with
  | false => rfl
  | true => rw [hf.closed j oj hj hl e he hb] at hi; cases hi
 have hv : a.eval (.tmp t) = a0.tmps.getD t undef := by simp only [Act.eval, Array.getD_eq_getD_getElem?, hw]
 have e : (execOp a.eval ⟨some d, .move (.tmp t), ty, pos, aft, none⟩).run P w = .ok (.value (a0.tmps.getD t undef)) w := by rw [← hv]; rfl
 unfold Go.wpOp
 simp only [ho]
 have hwt : Region.wanted ⟨some d, .move (.tmp t), ty, pos, aft, none⟩ (yielded ops a.tmps) = true := rfl
 rw [if_pos hwt]
 refine .inl ?_
 unfold Oper.wp
 rw [e]
 exact hK g _ _ (hf.put hsz ho hall) (hg.put2 ho (hp g)) (by rw [dn_set]; exact hs _ _ _ hS)
theorem all_of_none2 (hc : sureB2 old md ops = true) {listed : Array Bool} (hsz : listed.size = ops.size) (hr : Region.ready md ops listed = []) : ∀ i, listed.getD i true = true := by
 intro i
 induction i using Nat.strongRecOn with
 | ind i ih =>
  cases h : listed.getD i true with
  | true => rfl
  | false =>
   have hlt : i < listed.size := by
    rcases Nat.lt_or_ge i listed.size with h' | h'
    ·exact h'
    ·simp [Array.getElem?_eq_none h'] at h
   have ho : ops[i]? = some (ops[i]'(by omega)) := Array.getElem?_eq_getElem (by omega)
   have : i ∈ Region.ready md ops listed := mem_ready.2 ⟨h, _, ho, fun e he hb => by
    have hlt' := (sureB2_at hc ho).1 e he hb
    have h1 := ih e.on hlt'
    have h2 : e.on < listed.size := by omega
    simpa [h2] using h1⟩
   rw [hr] at this
   cases this
theorem wpAny_ghost2 (hc : sureB2 old md ops = true) (hsel : Region.noSelect ops = true) (hQ : ∀ g c ts w, Q (.panic c) (F g) w → Q (.panic c) ⟨ts, (F g).defers⟩ w)
  (hop : ∀ i o, ops[i]? = some o → (old.contains i = false ∧ OpGhost P md ops Q S F i o) ∨ (old.contains i = true ∧ OpOld S F a0 i o)) (hend : ∀ g w, S g (fun _ => true) w → Q .normal (F g) w) :
  ∀ (fuel : Nat) (listed : Array Bool) (g : Nat → Nat) (a : Act) (w : World), left ops.size listed ≤ fuel → listed.size = ops.size →
   Fresh ops md a0 listed a → Agree ops (F g) listed a → S g (dn listed) w → wpAny P md ops Q fuel listed a w := by
 have fin : ∀ (listed : Array Bool) (g : Nat → Nat) (a : Act) (w : World), listed.size = ops.size → Agree ops (F g) listed a → S g (dn listed) w → Region.ready md ops listed = [] → Q .normal a w := fun listed g a w hsz hg hS hr => by
  have hall := all_of_none2 hc hsz hr
  rw [agree_all hg hall]
  have : dn listed = fun _ => true := funext hall
  rw [this] at hS
  exact hend g w hS
 intro fuel
 induction fuel with
 | zero =>
  intro listed g a w hf hsz hfr hg hS
  have hr : Region.ready md ops listed = [] := by
   cases hr : Region.ready md ops listed with
   | nil => rfl
   | cons i l =>
    have hi : i ∈ Region.ready md ops listed := by rw [hr]; exact .head _
    obtain ⟨h1, o, ho, _⟩ := mem_ready.1 hi
    have := left_set h1 (Array.getElem?_eq_some_iff.1 ho).1
    omega
  exact ⟨hr, fin listed g a w hsz hg hS hr⟩
 | succ fuel ih =>
  intro listed g a w hf hsz hfr hg hS
  refine ⟨fin listed g a w hsz hg hS, fun i hi => ?_⟩
  obtain ⟨h1, o, ho, hall⟩ := mem_ready.1 hi
  have hlt := left_set h1 (Array.getElem?_eq_some_iff.1 ho).1
  rcases hop i o ho with ⟨hn, h⟩ | ⟨hn, h⟩
  ·exact OpGhost.wpOp2 hc hsel hQ hn hsz hfr hg ho h1 hall hS h fun g' a' w' hfr' hg' hS' => ih _ g' _ _ (by omega) (by simpa using hsz) hfr' hg' hS'
  ·exact OpOld.wpOp hc hn hsz hfr hg ho h1 hall hS h fun g' a' w' hfr' hg' hS' => ih _ g' _ _ (by omega) (by simpa using hsz) hfr' hg' hS'
def AllGhost2 (P : Program) (old : List Nat) (md : Region.Mode) (ops : Array Oper) (Q : Exit → Act → World → Prop) (S : (Nat → Nat) → (Nat → Bool) → World → Prop) (F : (Nat → Nat) → Act) (a0 : Act) : Nat → List Oper → Prop
 | _, [] => True
 | i, o :: os => ((old.contains i = false ∧ OpGhost P md ops Q S F i o) ∨ (old.contains i = true ∧ OpOld S F a0 i o)) ∧ AllGhost2 P old md ops Q S F a0 (i + 1) os
theorem AllGhost2.nil {i : Nat} : AllGhost2 P old md ops Q S F a0 i [] := trivial
theorem AllGhost2.cons {i : Nat} {o : Oper} {os : List Oper} (hn : old.contains i = false) (h : OpGhost P md ops Q S F i o) (hs : AllGhost2 P old md ops Q S F a0 (i + 1) os) : AllGhost2 P old md ops Q S F a0 i (o :: os) := ⟨.inl ⟨hn, h⟩, hs⟩
theorem AllGhost2.was {i t d : Nat} {ty : TypeId} {pos : String} {aft : Array Edge} {os : List Oper} (hn : old.contains i = true) (hp : ∀ g, (F g).put (some d) (a0.tmps.getD t undef) = F g) (h : ∀ g d w, S g d w → S g (up d i true) w)
  (hs : AllGhost2 P old md ops Q S F a0 (i + 1) os) : AllGhost2 P old md ops Q S F a0 i (⟨some d, .move (.tmp t), ty, pos, aft, none⟩ :: os) := ⟨.inr ⟨hn, t, d, ty, pos, aft, rfl, hp, h⟩, hs⟩
theorem AllGhost2.get : ∀ {os : List Oper} {k : Nat}, AllGhost2 P old md ops Q S F a0 k os → ∀ i o, os[i]? = some o → (old.contains (k + i) = false ∧ OpGhost P md ops Q S F (k + i) o) ∨ (old.contains (k + i) = true ∧ OpOld S F a0 (k + i) o) := by
  intro os
  induction os with
  | nil => intro k _ i o ho; simp at ho
  | cons x xs ih =>
    intro k h i o ho
    cases i with
    | zero => obtain rfl : x = o := by simpa using ho
              exact h.1
    | succ i =>
      have := ih h.2 i o (by simpa using ho)
      rwa [Nat.add_right_comm, Nat.add_assoc] at this
theorem wp_region_old {id : Nat} {a : Act} {w : World} (old : List Nat) (F : (Nat → Nat) → Act) (S : (Nat → Nat) → (Nat → Bool) → World → Prop) (vs : List Value) (hm : P.follows .mixedOrders = true) (hc : sureB2 old .any ops = true) (hsel : Region.noSelect ops = true)
  (hF : putAll ops.toList vs a = F (fun _ => 0)) (hQ : ∀ g c ts w, Q (.panic c) (F g) w → Q (.panic c) ⟨ts, (F g).defers⟩ w) (hS : ∀ d : Nat → Bool, (∀ j, j < ops.size → d j = false) → S (fun _ => 0) d w.drew)
  (hop : AllGhost2 P old .any ops Q S F a 0 ops.toList) (hend : ∀ g w, S g (fun _ => true) w → Q .normal (F g) w) :
  (Code.region id ops true).wp P Q a w :=
 wp_region_any hm (wpAny_ghost2 (a0 := a) hc hsel hQ (fun i o ho => by have := hop.get i o (by rw [Array.getElem?_toList]; exact ho); rwa [Nat.zero_add] at this) hend _ _ (fun _ => 0) _ _
  (Nat.le_trans (List.countP_le_length) (by simp)) (by simp) ⟨fun _ _ => rfl, fun j o hj hl => by
   have := (Array.getElem?_eq_some_iff.1 hj).1
   simp [this] at hl⟩ (agree_start hF) (hS _ fun j hj => by simp [dn, hj]))
end
end Go.Proofs.YtefjnfeckenmkaaGreatDoor

namespace Go.Proofs.YtefjnfeckenmkaaGreatDoor
open Go.RowKit
def pt (q : Nat) : Value := .pointer (some ⟨q, 0, none⟩)
def un : Value := undef
def Blk (w : World) (q : Nat) (t : TypeId) (c : Array Value) : Prop := ∃ f : Nat × Nat, w.heap[q]? = some (.cells c t f) ∧ (f = (0, 0) ∨ c.size ≤ f.1)
theorem Blk.lt {w : World} {q : Nat} {t : TypeId} {c : Array Value} (h : Blk w q t c) : q < w.heap.size := by
 obtain ⟨f, h, _⟩ := h
 exact lt_of_block h
theorem Blk.at' {w w' : World} {q : Nat} {t : TypeId} {c : Array Value} (h : Blk w q t c) (e : w'.heap[q]? = w.heap[q]?) : Blk w' q t c := by
 obtain ⟨f, h, hf⟩ := h
 exact ⟨f, e.trans h, hf⟩
theorem Blk.keep {w w' : World} {q : Nat} {t : TypeId} {c : Array Value} (h : Blk w q t c) (hb : Below w.heap.size w w') : Blk w' q t c := h.at' (hb.block q h.lt)
theorem Blk.drew {w : World} {q : Nat} {t : TypeId} {c : Array Value} (h : Blk w q t c) : Blk w.drew q t c := h
theorem Blk.alloc {w : World} {q : Nat} {t : TypeId} {c : Array Value} (h : Blk w q t c) (o : Obj) : Blk (w.alloc o) q t c := h.at' (Below.heap_alloc w o q h.lt)
theorem Blk.new (w : World) (t : TypeId) (c : Array Value) : Blk (w.alloc (.cells c t)) w.heap.size t c := ⟨(0, 0), heap_alloc_last w _, .inl rfl⟩
theorem Blk.cell {w : World} {q : Nat} {t : TypeId} {c : Array Value} (h : Blk w q t c) (i : Nat) : w.cell? ⟨q, i, none⟩ = c[i]? := by
 obtain ⟨f, h, _⟩ := h
 exact cell_of_row w q i c t _ h
theorem Blk.free {w : World} {q : Nat} {t : TypeId} {c : Array Value} (h : Blk w q t c) (i : Nat) (hi : i < c.size) : w.frozen? ⟨q, i, none⟩ = false := by
 obtain ⟨f, h, hf⟩ := h
 rcases hf with rfl | hf
 ·simp [World.frozen?, h]
 ·obtain ⟨lo, hi'⟩ := f
  simp only [World.frozen?, h]
  simp only at hf
  simp only [Bool.and_eq_false_iff, decide_eq_false_iff_not]
  left
  omega
theorem Blk.range {w : World} {q : Nat} {t : TypeId} {c : Array Value} (h : Blk w q t c) : w.rangeAt q 0 c.toList := fun j v hv => by
 rw [Nat.zero_add, h.cell j]
 simpa using hv
theorem Blk.there {w : World} {q : Nat} {t : TypeId} {c : Array Value} (h : Blk w q t c) : w.there q 0 c.size := fun j hj => by
 rw [Nat.zero_add]
 exact ⟨by rw [h.cell j]; simp [hj], h.free j hj⟩
theorem Blk.set {w : World} {q : Nat} {t : TypeId} {c : Array Value} (h : Blk w q t c) (i : Nat) (v : Value) : Blk (w.setCell ⟨q, i, none⟩ v) q t (c.setIfInBounds i v) := by
 obtain ⟨f, h, hf⟩ := h
 refine ⟨f, ?_, by rw [Array.size_setIfInBounds]; exact hf⟩
 rw [setCell_eq_setRow w q i c t f v h, setRow_heap w q _ _ t f h]
theorem Blk.far {w : World} {q b i : Nat} {t : TypeId} {c : Array Value} {v : Value} (h : Blk w q t c) (hne : q ≠ b) : Blk (w.setCell ⟨b, i, none⟩ v) q t c := h.at' (Below.heap_setCell w ⟨b, i, none⟩ v q hne)
theorem Blk.fars {q b : Nat} {t : TypeId} {c : Array Value} (hne : q ≠ b) : ∀ (vs : List Value) (o : Nat) (w : World), Blk w q t c → Blk (w.setCells b o vs) q t c
 | [], _, _, h => h
 | _ :: r, o, _, h => Blk.fars hne r (o + 1) _ (h.far hne)
theorem setCells_size (b : Nat) : ∀ (vs : List Value) (o : Nat) (w : World), (w.setCells b o vs).heap.size = w.heap.size
 | [], _, _ => rfl
 | v :: r, o, w => by rw [World.setCells, setCells_size b r]; simp
theorem below_setCells {B b : Nat} (hb : B ≤ b) : ∀ (vs : List Value) (o : Nat) {w0 w : World}, Below B w0 w → Below B w0 (w.setCells b o vs)
 | [], _, _, _, h => h
 | v :: r, o, _, _, h => below_setCells hb r (o + 1) (h.setCell (p := ⟨b, o, none⟩) hb v)
theorem Blk.sets {q : Nat} {t : TypeId} : ∀ (vs : List Value) (o : Nat) (w : World) (c : Array Value), Blk w q t c → o + vs.length ≤ c.size → Blk (w.setCells q o vs) q t ((c.toList.take o ++ vs ++ c.toList.drop (o + vs.length)).toArray)
 | [], o, w, c, h, _ => by
  have : (c.toList.take o ++ [] ++ c.toList.drop (o + 0)).toArray = c := by simp
  show Blk w q t ((c.toList.take o ++ [] ++ c.toList.drop (o + 0)).toArray)
  rw [this]
  exact h
 | v :: r, o, w, c, h, hs => by
  have hlt : o < c.size := by simp at hs; omega
  have h1 := Blk.sets r (o + 1) _ _ (h.set o v) (by simp at hs ⊢; omega)
  have e : (((c.setIfInBounds o v).toList.take (o + 1) ++ r ++ (c.setIfInBounds o v).toList.drop (o + 1 + r.length)).toArray) = ((c.toList.take o ++ (v :: r) ++ c.toList.drop (o + (v :: r).length)).toArray) := by
   congr 1
   rw [Array.toList_setIfInBounds, List.take_set, List.drop_set_of_lt (by omega)]
   have h2 : (c.toList.take (o + 1)).set o v = c.toList.take o ++ [v] := by
    rw [List.take_add_one, List.set_append_right _ _ (by simp; omega)]
    have : o - (c.toList.take o).length = 0 := by simp; omega
    rw [this, List.getElem?_eq_getElem (by simpa using hlt)]
    rfl
   rw [h2]
   simp [Nat.add_assoc, Nat.add_comm 1]
  rw [e] at h1
  exact h1
theorem Blk.whole {w : World} {q : Nat} {t : TypeId} {c c' : Array Value} (h : Blk w q t c) (hs : c'.size = c.size) : Blk (w.setCells q 0 c'.toList) q t c' := by
 have h1 := Blk.sets c'.toList 0 w c h (by simp [hs])
 have e : (c.toList.take 0 ++ c'.toList ++ c.toList.drop (0 + c'.toList.length)).toArray = c' := by
  rw [List.take_zero, List.nil_append, List.drop_eq_nil_of_le (by simp [hs]), List.append_nil]
 rw [e] at h1
 exact h1
section
variable {P : Program}
theorem run_load_blk {ρ : Operand → Value} {x : Operand} {q : Nat} {t ty : TypeId} {c : Array Value} {w : World} {dst : Option Tmp} {ty' : TypeId} {pos : String} {aft : Array Edge} {gd : Option (Nat × Bool)} {D : TypeDesc}
     (h : Blk w q t c) (hu : P.underlying ty = some D) (hd : D.isRow = true) (hi : (P.info? ty).map (·.size) = some c.size) (hx : ρ x = .pointer (some ⟨q, 0, none⟩) := by kernel_rfl) : (execOp ρ ⟨dst, .load ty x, ty', pos, aft, gd⟩).run P w = .ok (.value (.agg c)) w := by
  simp only [execOp, hx, Instr.loadAt, Instr.sureAddr, Sem.run_bind, Sem.run_pure, Result.andThen_ok, run_loadVar_mid w q 0 ty c.toList D h.range hu hd (by simpa using hi)]
theorem run_store_blk {ρ : Operand → Value} {x y : Operand} {q : Nat} {t ty : TypeId} {c c' : Array Value} {w : World} {dst : Option Tmp} {ty' : TypeId} {pos : String} {aft : Array Edge} {gd : Option (Nat × Bool)}
  (hx : ρ x = .pointer (some ⟨q, 0, none⟩)) (hy : ρ y = .agg c') (h : Blk w q t c) (hs : c'.size = c.size) (hi : (P.info? ty).map (·.size) = some c'.size) (h1 : c'.all (·.oneCell') = true) :
  (execOp ρ ⟨dst, .store ty x y, ty', pos, aft, gd⟩).run P w = .ok .skip (w.setCells q 0 c'.toList) := by
 simp only [execOp, hx, hy, Instr.storeAt, Instr.sureAddr, Sem.run_bind, Sem.run_pure, Result.andThen_ok, run_storeVar_mid w q 0 ty c' (by rw [hs]; exact h.there) hi h1]
end
structure NewV (k a0 t0 B : Nat) (t : TypeId) (z : Array Value) (val : Nat → Array Value) (g : Nat → Nat) (d : Nat → Bool) (w : World) : Prop where
 own : ∀ j, j < k → d (a0 + j) = true → B ≤ g (a0 + j) ∧ Blk w (g (a0 + j)) t (if d (t0 + j) = true then val j else z)
 ne : ∀ i j, i < k → j < k → i ≠ j → d (a0 + i) = true → d (a0 + j) = true → g (a0 + i) ≠ g (a0 + j)
 imp : ∀ j, j < k → d (t0 + j) = true → d (a0 + j) = true
variable {k a0 t0 B : Nat} {t : TypeId} {z : Array Value} {val : Nat → Array Value} {g : Nat → Nat} {d : Nat → Bool} {w : World}
theorem NewV.start (hd : ∀ j, j < t0 + k → d j = false) (hat : a0 + k ≤ t0) : NewV k a0 t0 B t z val g d w :=
 ⟨fun j hj h => absurd h (by rw [hd _ (by omega)]; decide), fun i j hi hj _ h => absurd h (by rw [hd _ (by omega)]; decide), fun j hj h => absurd h (by rw [hd _ (by omega)]; decide)⟩
theorem NewV.keep (h : NewV k a0 t0 B t z val g d w) {i : Nat} (hi : ∀ j, j < k → i ≠ a0 + j ∧ i ≠ t0 + j) {w' : World} (hb : Below w.heap.size w w') : NewV k a0 t0 B t z val g (up d i true) w' := by
 have e1 : ∀ j, j < k → up d i true (a0 + j) = d (a0 + j) := fun j hj => up_ne _ _ (Ne.symm (hi j hj).1)
 have e2 : ∀ j, j < k → up d i true (t0 + j) = d (t0 + j) := fun j hj => up_ne _ _ (Ne.symm (hi j hj).2)
 refine ⟨fun j hj h1 => ?_, fun i j hi hj hne h1 h2 => ?_, fun j hj h1 => ?_⟩
 ·rw [e1 j hj] at h1
  rw [e2 j hj]
  exact ⟨(h.own j hj h1).1, (h.own j hj h1).2.keep hb⟩
 ·rw [e1 i hi] at h1
  rw [e1 j hj] at h2
  exact h.ne i j hi hj hne h1 h2
 ·rw [e1 j hj]; rw [e2 j hj] at h1
  exact h.imp j hj h1
theorem NewV.make (h : NewV k a0 t0 B t z val g d w) (hat : a0 + k ≤ t0) {i j : Nat} (hj : j < k) (hi : i = a0 + j) (hd : d i = false) (hB : B ≤ w.heap.size) :
  NewV k a0 t0 B t z val (up g i w.heap.size) (up d i true) (w.alloc (.cells z t)) := by
 subst hi
 have e1 : ∀ m, m ≠ j → up d (a0 + j) true (a0 + m) = d (a0 + m) := fun m hm => up_ne _ _ (by omega)
 have e2 : ∀ m, up d (a0 + j) true (t0 + m) = d (t0 + m) := fun m => up_ne _ _ (by omega)
 have e3 : ∀ m, m ≠ j → up g (a0 + j) w.heap.size (a0 + m) = g (a0 + m) := fun m hm => up_ne _ _ (by omega)
 have lt : ∀ m, m < k → d (a0 + m) = true → g (a0 + m) < w.heap.size := fun m hm h1 => (h.own m hm h1).2.lt
 have hT : d (t0 + j) = false := by
  cases ht : d (t0 + j) with
  | false => rfl
  | true => rw [h.imp j hj ht] at hd; cases hd
 refine ⟨fun m hm h1 => ?_, fun m n hm hn hne h1 h2 => ?_, fun m hm h1 => ?_⟩
 ·by_cases hmj : m = j
  ·subst hmj
   rw [up_at, e2, hT]
   exact ⟨hB, Blk.new w t z⟩
  ·rw [e1 m hmj] at h1
   rw [e2, e3 m hmj]
   exact ⟨(h.own m hm h1).1, (h.own m hm h1).2.alloc _⟩
 ·by_cases hmj : m = j
  ·subst hmj
   rw [e1 n (Ne.symm hne)] at h2
   rw [up_at, e3 n (Ne.symm hne)]
   have := lt n hn h2
   omega
  ·rw [e1 m hmj] at h1
   rw [e3 m hmj]
   by_cases hnj : n = j
   ·subst hnj
    rw [up_at]
    have := lt m hm h1
    omega
   ·rw [e1 n hnj] at h2
    rw [e3 n hnj]
    exact h.ne m n hm hn hne h1 h2
 ·rw [e2] at h1
  by_cases hmj : m = j
  ·subst hmj; exact up_at _ _ _
  ·rw [e1 m hmj]; exact h.imp m hm h1
theorem NewV.fill (h : NewV k a0 t0 B t z val g d w) (hat : a0 + k ≤ t0) {i j : Nat} (hj : j < k) (hi : i = t0 + j) (hd : d i = false) (ha : d (a0 + j) = true) (hs : (val j).size = z.size) :
  NewV k a0 t0 B t z val g (up d i true) (w.setCells (g (a0 + j)) 0 (val j).toList) := by
 subst hi
 have e1 : ∀ m, m < k → up d (t0 + j) true (a0 + m) = d (a0 + m) := fun m hm => up_ne _ _ (by omega)
 have e2 : ∀ m, m ≠ j → up d (t0 + j) true (t0 + m) = d (t0 + m) := fun m hm => up_ne _ _ (by omega)
 refine ⟨fun m hm h1 => ?_, fun m n hm hn hne h1 h2 => ?_, fun m hm h1 => ?_⟩
 ·rw [e1 m hm] at h1
  refine ⟨(h.own m hm h1).1, ?_⟩
  by_cases hmj : m = j
  ·subst hmj
   rw [up_at, if_pos rfl]
   have := (h.own m hm h1).2
   rw [hd, if_neg (by decide)] at this
   exact this.whole hs
  ·rw [e2 m hmj]
   exact Blk.fars (h.ne m j hm hj hmj h1 ha) _ _ _ (h.own m hm h1).2
 ·rw [e1 m hm] at h1
  rw [e1 n hn] at h2
  exact h.ne m n hm hn hne h1 h2
 ·rw [e1 m hm]
  by_cases hmj : m = j
  ·subst hmj; exact ha
  ·rw [e2 m hmj] at h1
   exact h.imp m hm h1
structure HA (w0 : World) (L : List (Nat × TypeId × Array Value)) (w : World) : Prop where
 old : Below w0.heap.size w0 w
 blk : ∀ x ∈ L, Blk w x.1 x.2.1 x.2.2
 own : ∀ x ∈ L, w0.heap.size ≤ x.1
 nd : (L.map (·.1)).Nodup
variable {w0 : World} {L : List (Nat × TypeId × Array Value)}
theorem HA.keep (w w' : World) (h : HA w0 L w) (hb : Below w.heap.size w w') : HA w0 L w' := ⟨h.old.trans (hb.mono h.old.size), fun x hx => (h.blk x hx).keep hb, h.own, h.nd⟩
theorem HA.get (h : HA w0 L w) (i : Nat) {x : Nat × TypeId × Array Value} (hi : L[i]? = some x) : Blk w x.1 x.2.1 x.2.2 := h.blk x (List.mem_of_getElem? hi)
theorem HA.drew (h : HA w0 L w) : HA w0 L w.drew := ⟨h.old.drew, fun x hx => (h.blk x hx).drew, h.own, h.nd⟩
theorem HA.start (w : World) : HA w [] w := ⟨Below.refl _ w, fun _ h => (by cases h), fun _ h => (by cases h), List.nodup_nil⟩
theorem HA.size (h : HA w0 L w) : w0.heap.size ≤ w.heap.size := h.old.size
theorem HA.make (h : HA w0 L w) (t : TypeId) (c : Array Value) : HA w0 ((w.heap.size, t, c) :: L) (w.alloc (.cells c t)) :=
 ⟨h.old.alloc h.old.size _, fun x hx => by
  rcases List.mem_cons.1 hx with rfl | hx
  ·exact Blk.new w t c
  ·exact (h.blk x hx).alloc _, fun x hx => by
  rcases List.mem_cons.1 hx with rfl | hx
  ·exact h.size
  ·exact h.own x hx, by
  rw [List.map_cons, List.nodup_cons]
  refine ⟨fun hm => ?_, h.nd⟩
  obtain ⟨x, hx, e⟩ := List.mem_map.1 hm
  have := (h.blk x hx).lt
  simp at e
  omega⟩
theorem HA.fill (h : HA w0 L w) (i : Nat) {q : Nat} {t : TypeId} {c c' : Array Value} (hi : L[i]? = some (q, t, c)) (hs : c'.size = c.size) : HA w0 (L.set i (q, t, c')) (w.setCells q 0 c'.toList) := by
 have hlt : i < L.length := (List.getElem?_eq_some_iff.1 hi).1
 have hmap : (L.set i (q, t, c')).map (·.1) = L.map (·.1) := by
  rw [List.map_set]
  refine List.ext_getElem? fun j => ?_
  by_cases hj : i = j
  ·subst hj
   rw [List.getElem?_set_self (by simpa using hlt), List.getElem?_map, hi]
   rfl
  ·rw [List.getElem?_set_ne hj]
 have hq := h.own _ (List.mem_of_getElem? hi)
 refine ⟨below_setCells hq _ _ h.old, fun x hx => ?_, fun x hx => ?_, by rw [hmap]; exact h.nd⟩
 ·obtain ⟨j, hj⟩ := List.mem_iff_getElem?.1 hx
  by_cases hij : i = j
  ·subst hij
   rw [List.getElem?_set_self hlt] at hj
   obtain rfl := Option.some.inj hj
   exact (h.get i hi).whole hs
  ·rw [List.getElem?_set_ne hij] at hj
   refine Blk.fars (fun e => hij ?_) _ _ _ (h.get j hj)
   have h1 : (L.map (·.1))[i]? = some q := by rw [List.getElem?_map, hi]; rfl
   have h2 : (L.map (·.1))[j]? = some q := by rw [List.getElem?_map, hj]; exact congrArg some e
   exact (List.getElem?_inj (by simpa using hlt) h.nd).1 (h1.trans h2.symm)
 ·obtain ⟨j, hj⟩ := List.mem_iff_getElem?.1 hx
  have : x.1 ∈ L.map (·.1) := by rw [← hmap]; exact List.mem_map.2 ⟨x, hx, rfl⟩
  obtain ⟨y, hy, e⟩ := List.mem_map.1 this
  rw [← e]
  exact h.own y hy
structure GS (w0 : World) (L : List (Nat × TypeId × Array Value)) (B : Nat) (k a0 t0 : Nat) (t : TypeId) (z : Array Value) (val : Nat → Array Value) (g : Nat → Nat) (d : Nat → Bool) (w : World) : Prop where
 held : HA w0 L w
 big : B ≤ w.heap.size
 low : w0.heap.size ≤ B
 lt : ∀ x ∈ L, x.1 < B
 new : NewV k a0 t0 B t z val g d w
 hat : a0 + k ≤ t0
 siz : ∀ j, j < k → (val j).size = z.size
theorem GS.call (h : GS w0 L B k a0 t0 t z val g d w) {i : Nat} (hi : ∀ j, j < k → i ≠ a0 + j ∧ i ≠ t0 + j) {w' : World} (hb : Below w.heap.size w w') : GS w0 L B k a0 t0 t z val g (up d i true) w' :=
 ⟨h.held.keep _ _ hb, Nat.le_trans h.big hb.size, h.low, h.lt, h.new.keep hi hb, h.hat, h.siz⟩
theorem GS.load (h : GS w0 L B k a0 t0 t z val g d w) {i : Nat} (hi : ∀ j, j < k → i ≠ a0 + j ∧ i ≠ t0 + j) : GS w0 L B k a0 t0 t z val g (up d i true) w := h.call hi (Below.refl _ w)
theorem GS.make (h : GS w0 L B k a0 t0 t z val g d w) {i j : Nat} (hj : j < k) (hi : i = a0 + j) (hd : d i = false) :
  GS w0 L B k a0 t0 t z val (up g i w.heap.size) (up d i true) (w.alloc (.cells z t)) :=
 ⟨⟨h.held.old.alloc h.held.old.size _, fun x hx => (h.held.blk x hx).alloc _, h.held.own, h.held.nd⟩, by have := h.big; simp; omega, h.low, h.lt, h.new.make h.hat hj hi hd h.big, h.hat, h.siz⟩
theorem GS.fill (h : GS w0 L B k a0 t0 t z val g d w) {i j : Nat} (hj : j < k) (hi : i = t0 + j) (hd : d i = false) (ha : d (a0 + j) = true) :
  GS w0 L B k a0 t0 t z val g (up d i true) (w.setCells (g (a0 + j)) 0 (val j).toList) := by
 have hB := (h.new.own j hj ha).1
 exact ⟨⟨below_setCells (Nat.le_trans h.low hB) _ _ h.held.old, fun x hx => Blk.fars (by have := h.lt x hx; omega) _ _ _ (h.held.blk x hx), h.held.own, h.held.nd⟩, by rw [setCells_size]; exact h.big, h.low, h.lt, h.new.fill h.hat hj hi hd ha (h.siz j hj), h.hat, h.siz⟩
theorem GS.start (h : HA w0 L w) (hB : B = w.heap.size) (hat : a0 + k ≤ t0) (siz : ∀ j, j < k → (val j).size = z.size) (hd : ∀ j, j < t0 + k → d j = false) : GS w0 L B k a0 t0 t z val g d w :=
 ⟨h, by omega, by have := h.size; omega, fun x hx => by have := (h.blk x hx).lt; omega, NewV.start hd hat, hat, siz⟩
theorem GS.more {M : List (Nat × TypeId × Array Value)} (h : GS w0 L B k a0 t0 t z val g (fun _ => true) w) (j : Nat) (hj : j < k) (hM : HA w0 M w) (hL : ∀ x ∈ M, x ∈ L ∨ ∃ i, i < j ∧ x.1 = g (a0 + i)) : HA w0 ((g (a0 + j), t, val j) :: M) w := by
 have h1 := h.new.own j hj rfl
 refine ⟨hM.old, fun x hx => ?_, fun x hx => ?_, ?_⟩
 ·rcases List.mem_cons.1 hx with rfl | hx
  ·exact h1.2
  ·exact hM.blk x hx
 ·rcases List.mem_cons.1 hx with rfl | hx
  ·exact Nat.le_trans h.low h1.1
  ·exact hM.own x hx
 ·rw [List.map_cons, List.nodup_cons]
  refine ⟨fun hm => ?_, hM.nd⟩
  obtain ⟨x, hx, e⟩ := List.mem_map.1 hm
  simp only at e
  rcases hL x hx with hx | ⟨i, hi, hxi⟩
  ·have := h.lt x hx
   omega
  ·rw [hxi] at e
   exact h.new.ne i j (by omega) hj (by omega) rfl rfl e
theorem GS.one (h : GS w0 L B 1 a0 t0 t z val g (fun _ => true) w) : HA w0 ((g (a0 + 0), t, val 0) :: L) w := h.more 0 (by decide) h.held fun _ hx => .inl hx
theorem GS.two (h : GS w0 L B 2 a0 t0 t z val g (fun _ => true) w) : HA w0 ((g (a0 + 1), t, val 1) :: (g (a0 + 0), t, val 0) :: L) w :=
 h.more 1 (by decide) (h.more 0 (by decide) h.held fun _ hx => .inl hx) fun x hx => by
  rcases List.mem_cons.1 hx with rfl | hx
  ·exact .inr ⟨0, by decide, rfl⟩
  ·exact .inl hx
theorem GS.three (h : GS w0 L B 3 a0 t0 t z val g (fun _ => true) w) : HA w0 ((g (a0 + 2), t, val 2) :: (g (a0 + 1), t, val 1) :: (g (a0 + 0), t, val 0) :: L) w :=
 h.more 2 (by decide) (h.more 1 (by decide) (h.more 0 (by decide) h.held fun _ hx => .inl hx) fun x hx => by
  rcases List.mem_cons.1 hx with rfl | hx
  ·exact .inr ⟨0, by decide, rfl⟩
  ·exact .inl hx) fun x hx => by
  rcases List.mem_cons.1 hx with rfl | hx
  ·exact .inr ⟨1, by decide, rfl⟩
  ·rcases List.mem_cons.1 hx with rfl | hx
   ·exact .inr ⟨0, by decide, rfl⟩
   ·exact .inl hx
structure GM (w0 : World) (L M : List (Nat × TypeId × Array Value)) (g : Nat → Nat) (d : Nat → Bool) (w : World) : Prop where
 held : HA w0 L w
 made : ∀ x ∈ M, d x.1 = true → Blk w (g x.1) x.2.1 x.2.2
variable {M : List (Nat × TypeId × Array Value)}
theorem GM.start (h : HA w0 L w) (n : Nat) (hM : M.all (fun x => decide (x.1 < n)) = true) (hd : ∀ j, j < n → d j = false) : GM w0 L M g d w :=
 ⟨h, fun x hx h1 => by
  have := hd x.1 (of_decide_eq_true (List.all_eq_true.1 hM x hx))
  rw [h1] at this
  cases this⟩
theorem GM.call (h : GM w0 L M g d w) {i : Nat} (hi : M.all (fun x => x.1 != i) = true) {w' : World} (hb : Below w.heap.size w w') : GM w0 L M g (up d i true) w' :=
 ⟨h.held.keep _ _ hb, fun x hx h1 => by
  have hne : x.1 ≠ i := bne_iff_ne.1 (List.all_eq_true.1 hi x hx)
  rw [up_ne _ _ hne] at h1
  exact (h.made x hx h1).keep hb⟩
theorem GM.make (h : GM w0 L M g d w) {i : Nat} {t : TypeId} {c : Array Value} (hi : M.all (fun x => x.1 != i || (decide (x.2.1 = t))) = true) (hc : ∀ x ∈ M, x.1 = i → x.2.2 = c) : GM w0 L M (up g i w.heap.size) (up d i true) (w.alloc (.cells c t)) :=
 ⟨⟨h.held.old.alloc h.held.old.size _, fun x hx => (h.held.blk x hx).alloc _, h.held.own, h.held.nd⟩, fun x hx h1 => by
  by_cases hne : x.1 = i
  ·have h2 := List.all_eq_true.1 hi x hx
   simp only [hne, bne_self_eq_false, Bool.false_or] at h2
   rw [hne, up_at, of_decide_eq_true h2, hc x hx hne]
   exact Blk.new w t c
  ·rw [up_ne _ _ hne] at h1 ⊢
   exact (h.made x hx h1).alloc _⟩
theorem GM.get (h : GM w0 L M g d w) (i : Nat) {x : Nat × TypeId × Array Value} (hi : M[i]? = some x) (hd : d x.1 = true) : Blk w (g x.1) x.2.1 x.2.2 := h.made x (List.mem_of_getElem? hi) hd
/-! a region in the order of the text -/
section
variable {P : Program} {ops : Array Oper} {Q : Exit → Act → World → Prop} {a : Act} {rest : List Oper} {dst : Option Tmp} {ty ty' : TypeId} {pos : String} {aft : Array Edge} {gd : Option (Nat × Bool)}
structure WL (P : Program) (ops : Array Oper) (Q : Exit → Act → World → Prop) (l : List Oper) (a : Act) (w : World) : Prop where
 out : wpList P ops Q l a w
theorem wl_region {id : Nat} (h : WL P ops Q ops.toList a w) : (Code.region id ops false).wp P Q a w := wp_region_list h.out
theorem wl_nil (h : Q .normal a w) : WL P ops Q [] a w := ⟨h⟩
theorem wl_val {o : Oper} (v : Value) (hw : Region.wanted o (yielded ops a.tmps) = true) (hr : (execOp a.eval o).run P w = .ok (.value v) w) (h : WL P ops Q rest (a.put o.dst v) w) : WL P ops Q (o :: rest) a w := by
 refine ⟨?_⟩
 unfold wpList
 rw [if_pos hw]
 refine .inl ?_
 unfold Oper.wp
 rw [hr]
 exact h.out
theorem wl_skip {o : Oper}  (h : WL P ops Q rest (a.put o.dst undef) w) (hw : Region.wanted o (yielded ops a.tmps) = false := by kernel_rfl) : WL P ops Q (o :: rest) a w := by
 refine ⟨?_⟩
 unfold wpList
 rw [if_neg (by rw [hw]; decide)]
 exact h.out
theorem wl_load {x : Operand} {e : Nat × TypeId × Array Value} {D : TypeDesc} (H : HA w0 L w) (i : Nat) (hi : L[i]? = some e) 
     (hu : P.underlying ty = some D) (hd : D.isRow = true) (hz : (P.info? ty).map (·.size) = some e.2.2.size) (h : WL P ops Q rest (a.put dst (.agg e.2.2)) w) (hw : Region.wanted ⟨dst, .load ty x, ty', pos, aft, gd⟩ (yielded ops a.tmps) = true := by kernel_rfl) (hx : a.eval x = .pointer (some ⟨e.1, 0, none⟩) := by kernel_rfl) :
    WL P ops Q (⟨dst, .load ty x, ty', pos, aft, gd⟩ :: rest) a w := wl_val _ hw (run_load_blk (hx := hx) (H.get i hi) hu hd hz) h
theorem wl_make {c : Array Value} {o : Oper} (H : HA w0 L w) (t : TypeId)  (hr : (execOp a.eval o).run P w = .ok (.value (.pointer (some ⟨w.heap.size, 0, none⟩))) (w.alloc (.cells c t)))
  (h : ∀ q w', HA w0 ((q, t, c) :: L) w' → WL P ops Q rest (a.put o.dst (.pointer (some ⟨q, 0, none⟩))) w') (hw : Region.wanted o (yielded ops a.tmps) = true := by kernel_rfl) : WL P ops Q (o :: rest) a w := by
 refine ⟨?_⟩
 unfold wpList
 rw [if_pos hw]
 refine .inl ?_
 unfold Oper.wp
 rw [hr]
 exact (h _ _ (H.make t c)).out
theorem wl_fill {x y : Operand} {q : Nat} {t : TypeId} {c c' : Array Value} (H : HA w0 L w) (i : Nat) (hi : L[i]? = some (q, t, c)) 
      (hs : c'.size = c.size) (hz : (P.info? ty).map (·.size) = some c'.size) (h1 : c'.all (·.oneCell') = true)
    (h : ∀ w', HA w0 (L.set i (q, t, c')) w' → WL P ops Q rest (a.put dst undef) w') (hw : Region.wanted ⟨dst, .store ty x y, ty', pos, aft, gd⟩ (yielded ops a.tmps) = true := by kernel_rfl) (hx : a.eval x = .pointer (some ⟨q, 0, none⟩) := by kernel_rfl) (hy : a.eval y = .agg c' := by kernel_rfl) : WL P ops Q (⟨dst, .store ty x y, ty', pos, aft, gd⟩ :: rest) a w := by
  refine ⟨?_⟩
  unfold wpList
  rw [if_pos hw]
  refine .inl ?_
  unfold Oper.wp
  rw [run_store_blk hx hy (H.get i hi) hs hz h1]
  exact (h _ (H.fill i hi hs)).out
theorem wl_call {f : FuncId} {xs : Array Operand} {ats : Array TypeId} {v : Value} (H : HA w0 L w) 
  (hr : ∀ args w, (callFunc f args).run P w = .ok (.enter f args) w) (args : Array Value)  (hc : Calls P f args w fun e w' => e = .returned v ∧ Below w.heap.size w w')
  (h : ∀ w', HA w0 L w' → WL P ops Q rest (a.put dst v) w') (hw : Region.wanted ⟨dst, .call { callee := .value (.func f), args := xs, argTypes := ats }, ty, pos, aft, gd⟩ (yielded ops a.tmps) = true := by kernel_rfl) (ha : #[] ++ xs.map a.eval ++ #[] = args := by kernel_rfl) : WL P ops Q (⟨dst, .call { callee := .value (.func f), args := xs, argTypes := ats }, ty, pos, aft, gd⟩ :: rest) a w := by
 refine ⟨?_⟩
 unfold wpList
 rw [if_pos hw]
 refine .inl ?_
 unfold Oper.wp
 rw [execOp_call_go, ha, hr]
 refine hc.mono ?_
 rintro e w' ⟨rfl, hb⟩
 exact (h _ (H.keep _ _ hb)).out
theorem then_at {y : Code} {a F : Act} (h : a = F) (hq : y.wp P Q F w) : Exit.then (y.wp P Q) Q .normal a w := h ▸ hq
theorem then_ret {K : Act → World → Prop} (h : Q .ret a w) : Exit.then K Q .ret a w := h
end
section
variable {P : Program} {ops : Array Oper} {Q : Exit → Act → World → Prop} {a : Act} {w w0 : World} {L : List (Nat × TypeId × Array Value)} {rest : List Oper} {dst : Option Tmp} {ty ty' : TypeId} {pos : String} {aft : Array Edge} {gd : Option (Nat × Bool)}
theorem zwu {o : Oper} {v : Value} (hr : (execOp a.eval o).run P w = .ok (.value v) w) (h : WL P ops Q rest (a.put o.dst v) w) (hw : Region.wanted o (yielded ops a.tmps) = true := by kernel_rfl) : WL P ops Q (o :: rest) a w := wl_val v hw hr h
theorem zwv {o : Oper} (v : Value) (h : WL P ops Q rest (a.put o.dst v) w) (hw : Region.wanted o (yielded ops a.tmps) = true := by kernel_rfl) (hr : (execOp a.eval o).run P w = .ok (.value v) w := by kernel_rfl) : WL P ops Q (o :: rest) a w := wl_val v hw hr h
theorem zwc {f : FuncId} {xs : Array Operand} {ats : Array TypeId} {v : Value} {args : Array Value} (H : HA w0 L w) (hr : ∀ args w, (callFunc f args).run P w = .ok (.enter f args) w) (hc : Calls P f args w fun e w' => e = .returned v ∧ Below w.heap.size w w')
  (h : ∀ w', HA w0 L w' → WL P ops Q rest (a.put dst v) w') (hw : Region.wanted ⟨dst, .call { callee := .value (.func f), args := xs, argTypes := ats }, ty, pos, aft, gd⟩ (yielded ops a.tmps) = true := by kernel_rfl) (ha : #[] ++ xs.map a.eval ++ #[] = args := by kernel_rfl) : WL P ops Q (⟨dst, .call { callee := .value (.func f), args := xs, argTypes := ats }, ty, pos, aft, gd⟩ :: rest) a w := wl_call H (hw := hw) hr args (ha := ha) hc h
theorem zta {y : Code} (F : Act) (hq : y.wp P Q F w) (h : a = F := by kernel_rfl) : Exit.then (y.wp P Q) Q .normal a w := then_at h hq
theorem zsr {id : Nat} {y : Code} (h : WL P ops (Exit.then (y.wp P Q) Q) ops.toList a w) : (Code.seq (.region id ops false) y).wp P Q a w := wp_seq (wl_region h)
theorem zna {y : Code} (F : Act) (hq : y.wp P Q F w) (h : a = F := by kernel_rfl) : WL P ops (Exit.then (y.wp P Q) Q) [] a w := wl_nil (then_at h hq)
theorem znt {y : Code} (hq : y.wp P Q a w) : WL P ops (Exit.then (y.wp P Q) Q) [] a w := wl_nil (then_at rfl hq)
end
theorem zct {P : Program} {Q : Exit → Act → World → Prop} {a : Act} {w : World} {c : Operand} {x y : Code} (h : x.wp P Q a w) (hc : a.eval c = .bool true := by kernel_rfl) : (Code.cond c x y).wp P Q a w := wp_cond_true hc h
theorem zcf {P : Program} {Q : Exit → Act → World → Prop} {a : Act} {w : World} {c : Operand} {x y : Code} (h : y.wp P Q a w) (hc : a.eval c = .bool false := by kernel_rfl) : (Code.cond c x y).wp P Q a w := wp_cond_false hc h
theorem zex {a : Act} {F : (Nat → Value) → Act} {S : (Nat → Value) → Prop} (hs : S (fun i => a.tmps.getD i undef)) (h : a = F (fun i => a.tmps.getD i undef) := by kernel_rfl) : ∃ u, a = F u ∧ S u := ⟨_, h, hs⟩
theorem zb {P : Program} {fn : Func} {a : Act} {w w0 : World} {v : Value} (ho : Below w0.heap.size w0 w) (hr : (results fn a.tmps).run P w = .ok v w := by kernel_rfl) (hd : a.defers = [] := by rfl) : bodyPost P fn (fun e w' => e = .returned v ∧ Below w0.heap.size w0 w') .ret a w := bodyPost_ret hr hd ⟨rfl, ho⟩
theorem zit {P : Program} {Q : Exit → Act → World → Prop} {a : Act} {w : World} {c : Operand} {x y : Code} (h : y.wp P Q a w) (hc : a.eval c = .bool true := by kernel_rfl) : (Code.seq (.cond c .skip x) y).wp P Q a w := wp_seq (wp_cond_true hc (wp_skip (then_at rfl h)))
theorem zg {P : Program} {md : Region.Mode} {ops : Array Oper} {Q : Exit → Act → World → Prop} {S : (Nat → Nat) → (Nat → Bool) → World → Prop} {F : (Nat → Nat) → Act} {i : Nat} {o : Oper} {os : List Oper} (h : OpGhost P md ops Q S F i o) (hs : AllGhost P md ops Q S F (i + 1) os) : AllGhost P md ops Q S F i (o :: os) := .cons h hs
def zvs (ops : Array Oper) (F : Act) : List Value := ops.toList.map fun o => match o.dst with
 | some d => F.tmps.getD d undef
 | none => undef
theorem zrs {P : Program} {ops : Array Oper} {Q : Exit → Act → World → Prop} {id : Nat} {a : Act} {w : World} (F : Act) (S : World → Prop) (hS : S w.drew) (hop : AllSure P ops Q S F ops.toList) (hend : ∀ w, S w → Q .normal F w)
  (hQ : ∀ c ts w, Q (.panic c) F w → Q (.panic c) ⟨ts, F.defers⟩ w := by exact fun _ _ _ h => h) (hm : P.follows .mixedOrders = true := by kernel_rfl) (hc : sureB .any ops = true := by kernel_rfl) (hsel : Region.noSelect ops = true := by kernel_rfl) (hF : putAll ops.toList (zvs ops F) a = F := by kernel_rfl) : (Code.region id ops true).wp P Q a w := wp_region_sure F S (zvs ops F) hm hc hsel hF hQ hS hop hend
theorem zrg {P : Program} {ops : Array Oper} {Q : Exit → Act → World → Prop} {id : Nat} {a : Act} {w : World} (F : (Nat → Nat) → Act) (S : (Nat → Nat) → (Nat → Bool) → World → Prop) (hS : ∀ d : Nat → Bool, (∀ j, j < ops.size → d j = false) → S (fun _ => 0) d w.drew) (hop : AllGhost P .any ops Q S F 0 ops.toList) (hend : ∀ g w, S g (fun _ => true) w → Q .normal (F g) w)
  (hQ : ∀ g c ts w, Q (.panic c) (F g) w → Q (.panic c) ⟨ts, (F g).defers⟩ w := by exact fun _ _ _ _ h => h) (hm : P.follows .mixedOrders = true := by kernel_rfl) (hc : sureB .any ops = true := by kernel_rfl) (hsel : Region.noSelect ops = true := by kernel_rfl) (hF : putAll ops.toList (zvs ops (F fun _ => 0)) a = F (fun _ => 0) := by kernel_rfl) : (Code.region id ops true).wp P Q a w := wp_region_ghost F S (zvs ops (F fun _ => 0)) hm hc hsel hF hQ hS hop hend
def lku (u : Nat → Value) (l : List (Nat × Value)) (i : Nat) : Value := (l.find? (·.1 == i)).elim (u i) (·.2)
end Go.Proofs.YtefjnfeckenmkaaGreatDoor

namespace Go.Proofs.YtefjnfeckenmkaaGreatDoor
open Go.RowKit
def iN (k : IntKind) (n : Nat) : Value := .int k (n : Int)
def top : IntKind → Nat
 | .i8 => 128 | .u8 => 256 | .i16 => 32768 | .u16 => 65536 | .i32 => 2147483648 | .u32 => 4294967296 | .i64 => 9223372036854775808 | .u64 => 18446744073709551616
theorem wrap_top (k : IntKind) (n : Nat) (h : n < top k) : k.wrap (n : Int) = (n : Int) := by
 cases k <;> simp only [top] at h <;> simp [IntKind.wrap, IntKind.bits, IntKind.signed] <;> omega
section
variable {ρ : Operand → Value} {x y : Operand} {w : World} {dst : Option Tmp} {T T2 ty : TypeId} {pos : String} {aft : Array Edge} {gd : Option (Nat × Bool)} {k : IntKind} {a b c : Nat} {P : Program}
theorem run_add   (hc : a + b < top k) (hx : ρ x = iN k a := by kernel_rfl) (hy : ρ y = iN k b := by kernel_rfl) : (execOp ρ ⟨dst, .binOp .add T x y T2, ty, pos, aft, gd⟩).run P w = .ok (.value (iN k (a + b))) w := by
 have h := wrap_top k (a + b) hc
 simp only [execOp, hx, hy, iN]
 simpa [binOp, go_sem] using h
theorem run_sub   (hba : b ≤ a) (hc : a < top k) (hx : ρ x = iN k a := by kernel_rfl) (hy : ρ y = iN k b := by kernel_rfl) : (execOp ρ ⟨dst, .binOp .sub T x y T2, ty, pos, aft, gd⟩).run P w = .ok (.value (iN k (a - b))) w := by
 have h := wrap_top k (a - b) (by omega)
 rw [Int.ofNat_sub hba] at h
 simp only [execOp, hx, hy, iN]
 rw [Int.ofNat_sub hba]
 simpa [binOp, go_sem] using h
theorem run_mul   (hc : a * b < top k) (hx : ρ x = iN k a := by kernel_rfl) (hy : ρ y = iN k b := by kernel_rfl) : (execOp ρ ⟨dst, .binOp .mul T x y T2, ty, pos, aft, gd⟩).run P w = .ok (.value (iN k (a * b))) w := by
 have h := wrap_top k (a * b) hc
 simp only [execOp, hx, hy, iN]
 simpa [binOp, go_sem] using h
theorem run_quo   (hb : b ≠ 0) (hc : a < top k) (hx : ρ x = iN k a := by kernel_rfl) (hy : ρ y = iN k b := by kernel_rfl) : (execOp ρ ⟨dst, .binOp .quo T x y T2, ty, pos, aft, gd⟩).run P w = .ok (.value (iN k (a / b))) w := by
 have h := wrap_top k (a / b) (Nat.lt_of_le_of_lt (Nat.div_le_self a b) hc)
 simp only [execOp, hx, hy, iN]
 simpa [binOp, go_sem, hb] using h
theorem run_rem   (hb : b ≠ 0) (hx : ρ x = iN k a := by kernel_rfl) (hy : ρ y = iN k b := by kernel_rfl) : (execOp ρ ⟨dst, .binOp .rem T x y T2, ty, pos, aft, gd⟩).run P w = .ok (.value (iN k (a % b))) w := by
 simp only [execOp, hx, hy, iN]
 simp [binOp, go_sem, hb]
 exact Int.tmod_eq_emod_of_nonneg (by omega)
set_option linter.unusedSimpArgs false in
theorem run_shr {k2 : IntKind}   (hb : b ≤ k.bits) (hx : ρ x = iN k a := by kernel_rfl) (hy : ρ y = iN k2 b := by kernel_rfl) : (execOp ρ ⟨dst, .binOp .shr T x y T2, ty, pos, aft, gd⟩).run P w = .ok (.value (iN k (a / 2 ^ b))) w := by
 have e : min b k.bits = b := Nat.min_eq_left hb
 simp only [execOp, hx, hy, iN]
 cases k <;> simp [IntKind.bits] at e <;> first | simp [binOp, go_sem, e] | simp [binOp, go_sem]
theorem run_shl {k2 : IntKind}    (hc : a * 2 ^ b < top k) (hx : ρ x = iN k a := by kernel_rfl) (hy : ρ y = iN k2 b := by kernel_rfl) (hb : b ≤ k.bits := by decide) : (execOp ρ ⟨dst, .binOp .shl T x y T2, ty, pos, aft, gd⟩).run P w = .ok (.value (iN k (a * 2 ^ b))) w := by
 have e : min b k.bits = b := Nat.min_eq_left hb
 have h := wrap_top k (a * 2 ^ b) hc
 simp only [execOp, hx, hy, iN]
 cases k <;> simp [IntKind.bits] at e <;> simpa [binOp, go_sem, e] using h
theorem run_conv (k2 : IntKind) (hT : P.underlying T = some (.int k)) (hT2 : P.underlying T2 = some (.int k2))  (ha : a < top k2) (hx : ρ x = iN k a := by kernel_rfl) : (execOp ρ ⟨dst, .convert T T2 x, ty, pos, aft, gd⟩).run P w = .ok (.value (iN k2 a)) w := by
 have h := wrap_top k2 a ha
 simp only [execOp, hx, iN]
 simpa [go_sem, hT, hT2] using h
theorem run_and8   (ha : a < 256)  (hx : ρ x = iN .u8 a := by kernel_rfl) (hy : ρ y = iN .u8 b := by kernel_rfl) (hb : b < 256 := by decide) : (execOp ρ ⟨dst, .binOp .and T x y T2, ty, pos, aft, gd⟩).run P w = .ok (.value (iN .u8 (a &&& b))) w := by
 have h := u8_and_nat a b ha hb
 simp only [execOp, hx, hy, iN]
 simpa [binOp, go_sem] using h
theorem run_or8   (ha : a < 256)  (hx : ρ x = iN .u8 a := by kernel_rfl) (hy : ρ y = iN .u8 b := by kernel_rfl) (hb : b < 256 := by decide) : (execOp ρ ⟨dst, .binOp .or T x y T2, ty, pos, aft, gd⟩).run P w = .ok (.value (iN .u8 (a ||| b))) w := by
 have h := u8_or_nat a b ha hb
 simp only [execOp, hx, hy, iN]
 simpa [binOp, go_sem] using h
theorem run_and32 (hx : ρ x = iN .u32 a) (hy : ρ y = iN .u32 b) (ha : a < 4294967296) (hb : b < 4294967296) : (execOp ρ ⟨dst, .binOp .and T x y T2, ty, pos, aft, gd⟩).run P w = .ok (.value (iN .u32 (a &&& b))) w := by
 have h := u32_and_nat a b ha hb
 simp only [execOp, hx, hy, iN]
 simpa [binOp, go_sem] using h
theorem run_or32 (hx : ρ x = iN .u32 a) (hy : ρ y = iN .u32 b) (ha : a < 4294967296) (hb : b < 4294967296) : (execOp ρ ⟨dst, .binOp .or T x y T2, ty, pos, aft, gd⟩).run P w = .ok (.value (iN .u32 (a ||| b))) w := by
 have h := u32_or_nat a b ha hb
 simp only [execOp, hx, hy, iN]
 simpa [binOp, go_sem] using h
theorem run_and64 (hx : ρ x = iN .u64 a) (hy : ρ y = iN .u64 b) (ha : a < 18446744073709551616) (hb : b < 18446744073709551616) : (execOp ρ ⟨dst, .binOp .and T x y T2, ty, pos, aft, gd⟩).run P w = .ok (.value (iN .u64 (a &&& b))) w := by
 have h := bits_and_u64_nat a b ha hb
 simp only [execOp, hx, hy, iN]
 simpa [binOp, go_sem] using h
theorem run_or64 (hx : ρ x = iN .u64 a) (hy : ρ y = iN .u64 b) (ha : a < 18446744073709551616) (hb : b < 18446744073709551616) : (execOp ρ ⟨dst, .binOp .or T x y T2, ty, pos, aft, gd⟩).run P w = .ok (.value (iN .u64 (a ||| b))) w := by
 have h := bits_or_u64_nat a b ha hb
 simp only [execOp, hx, hy, iN]
 simpa [binOp, go_sem] using h
theorem run_lss   (t : Bool) (ht : decide (a < b) = t) (hx : ρ x = iN k a := by kernel_rfl) (hy : ρ y = iN k b := by kernel_rfl) : (execOp ρ ⟨dst, .binOp .lss T x y T2, ty, pos, aft, gd⟩).run P w = .ok (.value (.bool t)) w := by
 subst ht
 simp only [execOp, hx, hy, iN]
 simp [binOp, go_sem]
theorem run_eqi   (t : Bool) (ht : decide (a = b) = t) (hx : ρ x = iN k a := by kernel_rfl) (hy : ρ y = iN k b := by kernel_rfl) : (execOp ρ ⟨dst, .binOp .eql T x y T2, ty, pos, aft, gd⟩).run P w = .ok (.value (.bool t)) w := by
 subst ht
 simp only [execOp, hx, hy, iN]
 by_cases h : a = b
 ·subst h; simp [binOp, go_sem]
 ·have h2 : ((a : Int) == (b : Int)) = false := beq_eq_false_iff_ne.2 (by omega)
  simp [binOp, go_sem, h, h2]
theorem run_nei   (t : Bool) (ht : decide (a ≠ b) = t) (hx : ρ x = iN k a := by kernel_rfl) (hy : ρ y = iN k b := by kernel_rfl) : (execOp ρ ⟨dst, .binOp .neq T x y T2, ty, pos, aft, gd⟩).run P w = .ok (.value (.bool t)) w := by
 subst ht
 simp only [execOp, hx, hy, iN]
 by_cases h : a = b
 ·subst h; simp [binOp, go_sem]
 ·have h2 : ((a : Int) == (b : Int)) = false := beq_eq_false_iff_ne.2 (by omega)
  simp [binOp, go_sem, h]
  omega
theorem run_eqs {s t : ByteArray}   (r : Bool) (hr : decide (s = t) = r) (hx : ρ x = .string s := by kernel_rfl) (hy : ρ y = .string t := by kernel_rfl) : (execOp ρ ⟨dst, .binOp .eql T x y T2, ty, pos, aft, gd⟩).run P w = .ok (.value (.bool r)) w := by
 subst hr
 simp only [execOp, hx, hy]
 by_cases h : s = t
 ·subst h; simp [binOp, go_sem, Op.stringOp]
 ·have h2 : ¬s.toList = t.toList := fun e => by
   rw [ByteArray.toList_eq, ByteArray.toList_eq] at e
   refine h ?_
   obtain ⟨⟨l⟩⟩ := s
   obtain ⟨⟨m⟩⟩ := t
   exact congrArg (fun l : List UInt8 => (⟨⟨l⟩⟩ : ByteArray)) e
  simp [binOp, go_sem, Op.stringOp, h, h2]
theorem run_cat {s t : ByteArray}   (h : s.size + t.size ≤ 9223372036854775807) (hx : ρ x = .string s := by kernel_rfl) (hy : ρ y = .string t := by kernel_rfl) : (execOp ρ ⟨dst, .binOp .add T x y T2, ty, pos, aft, gd⟩).run P w = .ok (.value (.string (s ++ t))) w := by
 simp only [execOp, hx, hy]
 simp [binOp, go_sem, h]
theorem run_addr_slice {q n m : Nat} {e : TypeId} (hT : P.underlying T = some (.slice e)) (hs : ∀ w, (sizeOf e).run P w = .ok 1 w)   (ha : a < n) (hx : ρ x = .slice (some ⟨q, 0, none⟩) n m := by kernel_rfl) (hy : ρ y = iN .i64 a := by kernel_rfl) : (execOp ρ ⟨dst, .indexAddr T x y, ty, pos, aft, gd⟩).run P w = .ok (.value (.pointer (some ⟨q, a, none⟩))) w := by
 simp only [execOp, hx, hy, iN]
 have hu : ∀ w, (underlying T).run P w = .ok (.slice e) w := fun w => by simp [underlying, go_sem, hT]
 simp [go_sem, Instr.indexAt, hu, hs, ha]
theorem run_addr_arr {q n : Nat} {e : TypeId} (hT : P.underlying T = some (.array n e)) (hs : ∀ w, (sizeOf e).run P w = .ok 1 w)   (ha : a < n) (hx : ρ x = .pointer (some ⟨q, 0, none⟩) := by kernel_rfl) (hy : ρ y = iN .i64 a := by kernel_rfl) : (execOp ρ ⟨dst, .indexAddr T x y, ty, pos, aft, gd⟩).run P w = .ok (.value (.pointer (some ⟨q, a, none⟩))) w := by
 simp only [execOp, hx, hy, iN]
 simp [go_sem, hT, hs, ha]
theorem run_load1 {q i : Nat} {v : Value} (hg : ∀ w, (isAgg T).run P w = .ok false w)  (h : w.cell? ⟨q, i, none⟩ = some v) (hx : ρ x = .pointer (some ⟨q, i, none⟩) := by kernel_rfl) : (execOp ρ ⟨dst, .load T x, ty, pos, aft, gd⟩).run P w = .ok (.value v) w := by
 simp only [execOp, hx]
 simp [go_sem, h, hg]
theorem run_store1 {q i : Nat} {z : Int} (hs : ∀ w, (sizeOf T).run P w = .ok 1 w) (hx : ρ x = .pointer (some ⟨q, i, none⟩)) (hy : ρ y = .int k z) (h : (w.cell? ⟨q, i, none⟩).isSome = true) (hf : w.frozen? ⟨q, i, none⟩ = false) :
  (execOp ρ ⟨dst, .store T x y, ty, pos, aft, gd⟩).run P w = .ok .skip (w.setCell ⟨q, i, none⟩ (.int k z)) := by
 obtain ⟨u, hu⟩ := Option.isSome_iff_exists.1 h
 simp only [execOp, hx, hy]
 simp [go_sem, hu, hs, hf]
theorem run_index_str {s : ByteArray} (hT : P.underlying T = some .string) (hx : ρ x = .string s) (hy : ρ y = iN .i64 a) (ha : a < s.size) : (execOp ρ ⟨dst, .index T x y, ty, pos, aft, gd⟩).run P w = .ok (.value (iN .u8 (s.get a ha).toNat)) w := by
 simp only [execOp, hx, hy, iN]
 simp [go_sem, hT, ha]
 rfl
end
theorem wp_count {P : Program} {Q : Exit → Act → World → Prop} {c : Code} (I : Nat → Act → World → Prop) (n : Nat) {a : Act} {w : World} (h0 : I 0 a w)
  (round : ∀ i, i < n → ∀ a w, I i a w → c.wp P (Exit.then (I (i + 1)) Q) a w) (last : ∀ a w, I n a w → c.wp P (Exit.then (fun _ _ => False) Q) a w) : (Code.loop c).wp P Q a w := by
 have key : ∀ m i a w, i + m = n → I i a w → Code.rounds P c Q (m + 1) a w := by
  intro m
  induction m with
  | zero =>
   intro i a w hi hI
   rw [Nat.add_zero] at hi
   subst hi
   exact last a w hI
  | succ m ih =>
   intro i a w hi hI
   rw [rounds_succ]
   exact Code.wp_mono (fun e a w he => by cases e <;> first | exact ih (i + 1) a w (by omega) he | exact he) (round i (by omega) a w hI)
 exact wp_loop_rounds (n + 1) (key n 0 a w (by omega) h0)
section
variable {P : Program} {Q : Exit → Act → World → Prop} {a : Act} {w w0 : World} {L : List (Nat × TypeId × Array Value)}
theorem then_exit {K : Act → World → Prop} {i : Nat} (h : Q (.exit i) a w) : Exit.then K Q (.exit i) a w := h
theorem block_exit {i : Nat} (h : Q .normal a w) : Exit.inBlock i Q (.exit i) a w := by
 show (if i = i then Q .normal a w else Q (.exit i) a w)
 rw [if_pos rfl]
 exact h
theorem block_exit_ne {i j : Nat} (hne : j ≠ i) (h : Q (.exit j) a w) : Exit.inBlock i Q (.exit j) a w := by
 show (if j = i then Q .normal a w else Q (.exit j) a w)
 rw [if_neg hne]
 exact h
theorem block_normal {i : Nat} (h : Q .normal a w) : Exit.inBlock i Q .normal a w := h
theorem block_ret {i : Nat} (h : Q .ret a w) : Exit.inBlock i Q .ret a w := h
theorem then_I {K : Act → World → Prop} (h : K a w) : Exit.then K Q .normal a w := h
theorem HA.put (h : HA w0 L w) (i : Nat) {q : Nat} {t : TypeId} {c : Array Value} (hi : L[i]? = some (q, t, c)) (j : Nat) (v : Value) : HA w0 (L.set i (q, t, c.setIfInBounds j v)) (w.setCell ⟨q, j, none⟩ v) := by
 have hlt : i < L.length := (List.getElem?_eq_some_iff.1 hi).1
 have hmap : (L.set i (q, t, c.setIfInBounds j v)).map (·.1) = L.map (·.1) := by
  rw [List.map_set]
  refine List.ext_getElem? fun m => ?_
  by_cases hm : i = m
  ·subst hm
   rw [List.getElem?_set_self (by simpa using hlt), List.getElem?_map, hi]
   rfl
  ·rw [List.getElem?_set_ne hm]
 have hq := h.own _ (List.mem_of_getElem? hi)
 refine ⟨h.old.setCell (p := ⟨q, j, none⟩) hq v, fun x hx => ?_, fun x hx => ?_, by rw [hmap]; exact h.nd⟩
 ·obtain ⟨m, hm⟩ := List.mem_iff_getElem?.1 hx
  by_cases him : i = m
  ·subst him
   rw [List.getElem?_set_self hlt] at hm
   obtain rfl := Option.some.inj hm
   exact (h.get i hi).set j v
  ·rw [List.getElem?_set_ne him] at hm
   refine Blk.far (h.get m hm) (fun e => him ?_)
   have h1 : (L.map (·.1))[i]? = some q := by rw [List.getElem?_map, hi]; rfl
   have h2 : (L.map (·.1))[m]? = some q := by rw [List.getElem?_map, hm]; exact congrArg some e
   exact (List.getElem?_inj (by simpa using hlt) h.nd).1 (h1.trans h2.symm)
 ·have : x.1 ∈ L.map (·.1) := by rw [← hmap]; exact List.mem_map.2 ⟨x, hx, rfl⟩
  obtain ⟨y, hy, e⟩ := List.mem_map.1 this
  rw [← e]
  exact h.own y hy
theorem wl_put {ops : Array Oper} {rest : List Oper} {dst : Option Tmp} {T ty : TypeId} {pos : String} {aft : Array Edge} {gd : Option (Nat × Bool)} {x y : Operand} {q : Nat} {t : TypeId} {c : Array Value} {k : IntKind} {z : Int} (H : HA w0 L w) (i : Nat) (hi : L[i]? = some (q, t, c)) (j : Nat) (hj : j < c.size)
     (hs : ∀ w, (sizeOf T).run P w = .ok 1 w)  
    (h : ∀ w', HA w0 (L.set i (q, t, c.setIfInBounds j (.int k z))) w' → WL P ops Q rest (a.put dst undef) w') (hw : Region.wanted ⟨dst, .store T x y, ty, pos, aft, gd⟩ (yielded ops a.tmps) = true := by kernel_rfl) (hx : a.eval x = .pointer (some ⟨q, j, none⟩) := by kernel_rfl) (hy : a.eval y = .int k z := by kernel_rfl) : WL P ops Q (⟨dst, .store T x y, ty, pos, aft, gd⟩ :: rest) a w := by
  refine ⟨?_⟩
  unfold wpList
  rw [if_pos hw]
  refine .inl ?_
  unfold Oper.wp
  rw [run_store1 hs hx hy (by rw [(H.get i hi).cell j]; simp [hj]) ((H.get i hi).free j hj)]
  exact (h _ (H.put i hi j _)).out
theorem wl_mkslice {ops : Array Oper} {rest : List Oper} {o : Oper} {n : Nat} {c : Array Value} (H : HA w0 L w) (t : TypeId) (hw : Region.wanted o (yielded ops a.tmps) = true) (hr : (execOp a.eval o).run P w = .ok (.value (.slice (some ⟨w.heap.size, 0, none⟩) n n)) (w.alloc (.cells c t)))
  (h : ∀ q w', HA w0 ((q, t, c) :: L) w' → WL P ops Q rest (a.put o.dst (.slice (some ⟨q, 0, none⟩) n n)) w') : WL P ops Q (o :: rest) a w := by
 refine ⟨?_⟩
 unfold wpList
 rw [if_pos hw]
 refine .inl ?_
 unfold Oper.wp
 rw [hr]
 exact (h _ _ (H.make t c)).out
set_option linter.unusedSimpArgs false in
theorem res_cell {fn : Func} {p : Tmp} {t ty : TypeId} {ts : Array Value} {q : Nat} {c : Array Value} {D : TypeDesc} (hf : fn.results = #[.cell p ty]) (ht : ts.getD p undef = .pointer (some ⟨q, 0, none⟩)) (h : Blk w q t c) (hu : P.underlying ty = some D) (hd : D.isRow = true) (hi : (P.info? ty).map (·.size) = some c.size) :
  (results fn ts).run P w = .ok (.agg c) w := by
 have := run_loadVar_mid (P := P) w q 0 ty c.toList D h.range hu hd (by simpa using hi)
 have ht2 : ts[p]?.getD undef = .pointer (some ⟨q, 0, none⟩) := by simpa using ht
 simp [results, hf, Sem.run_bind, Sem.run_pure, Result.andThen_ok, asAddr, ht2, this]
set_option linter.unusedSimpArgs false in
theorem res_cell_tmp {fn : Func} {p r : Tmp} {t ty : TypeId} {ts : Array Value} {q : Nat} {c : Array Value} {D : TypeDesc} {v : Value} (hf : fn.results = #[.cell p ty, .tmp r]) (ht : ts.getD p undef = .pointer (some ⟨q, 0, none⟩)) (hv : ts.getD r undef = v) (h : Blk w q t c) (hu : P.underlying ty = some D) (hd : D.isRow = true) (hi : (P.info? ty).map (·.size) = some c.size) :
  (results fn ts).run P w = .ok (.tuple #[.agg c, v]) w := by
 have := run_loadVar_mid (P := P) w q 0 ty c.toList D h.range hu hd (by simpa using hi)
 have ht2 : ts[p]?.getD undef = .pointer (some ⟨q, 0, none⟩) := by simpa using ht
 have hv2 : ts[r]?.getD undef = v := by simpa using hv
 simp [results, hf, Sem.run_bind, Sem.run_pure, Result.andThen_ok, asAddr, ht2, hv2, this]
end
end Go.Proofs.YtefjnfeckenmkaaGreatDoor
