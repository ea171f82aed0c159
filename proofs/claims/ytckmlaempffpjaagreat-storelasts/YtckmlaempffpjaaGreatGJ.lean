/-
  A range over a function whose body is walked with what is held; the keys by pieces.
-/
import Derived.Test.YtckmlaempffpjaaGreatGI
namespace Go.Proofs.YtckmlaempffpjaaGreat
open Go.RowKit Go.Shelf

def noDef (o : Oper) : Bool := match o.op with | .defer _ => false | _ => true
theorem noDef_ne {o : Oper} (h : noDef o = true) : ∀ c, o.op ≠ .defer c := fun c e => by simp [noDef, e] at h
theorem upon_in {P : Program} {o : Oper} {a : Act} {next next' : Act → World → Prop} {Q : Exit → Act → World → Prop} {r n : Nat} (hn : ∀ a w, next a w → next' a w) {x : Result Next} (h : o.upon P a next Q x) : o.uponIn (Fence.wide.inRound r) n P a next' Q x := by
  match x, h with
  | .ok (.value v) w', h => exact hn _ _ h
  | .ok .skip w', h => exact hn _ _ h
  | .ok (.defer d) w', h => exact hn _ _ h
  | .ok (.enter f args) w', h =>
    refine ⟨fun e => absurd e (by simp [Fence.wide]), (callsIn_wide.2 h).mono ?_⟩
    intro e w2 h2
    cases e with
    | returned v => exact hn _ _ h2
    | panicked c => exact h2
    | outgrown => exact h2
  | .ok (.row row args) w', h =>
    exact ⟨fun e => absurd e (by simp [Fence.wide]), fun c cs _ => let ⟨v, w2, h2, hs⟩ := h c cs; ⟨v, w2, hn _ _ h2, stepsIn_wide.2 hs⟩⟩
  | .halt (.panic v) w', h => exact h
theorem list_in {P : Program} {ops : Array Oper} {Q : Exit → Act → World → Prop} {r n : Nat} (hQ : ¬ LetsOut Q) : ∀ (l : List Oper) (a : Act) (w : World), l.all noDef = true → wpList P ops Q l a w → wpListIn (Fence.wide.inRound r) n P ops Q l a w
  | [], _, _, _, h => h
  | o :: l, a, w, hd, h => by
    rw [List.all_cons, Bool.and_eq_true] at hd
    unfold wpList at h
    unfold wpListIn
    split at h
    · rename_i hw
      rw [if_pos hw]
      rcases h with h | h
      · refine ⟨fun _ _ => trivial, ?_⟩
        rw [show o.semAt (Fence.wide.inRound r).round a.eval = execOp a.eval o from Oper.semAt_some r _ _ (noDef_ne hd.1)]
        exact upon_in (list_in hQ l · · hd.2) h
      · exact absurd h.2 hQ
    · rename_i hw
      rw [if_neg hw]
      exact ⟨fun _ _ => trivial, list_in hQ l _ _ hd.2 h⟩
theorem any_in {P : Program} {ops : Array Oper} {Q : Exit → Act → World → Prop} {r n : Nat} {md : Region.Mode} (hQ : ¬ LetsOut Q) (hd : ops.toList.all noDef = true) : ∀ (fuel : Nat) (listed : Array Bool) (a : Act) (w : World), wpAny P md ops Q fuel listed a w → wpAnyIn (Fence.wide.inRound r) n P md ops Q fuel listed a w
  | 0, _, _, _, h => h
  | fuel + 1, listed, a, w, h => by
    refine ⟨h.1, fun i hi => ?_⟩
    have h2 := h.2 i hi
    unfold wpOp at h2
    unfold wpOpIn
    cases ho : ops[i]? with
    | none => rw [ho] at h2; exact any_in hQ hd fuel _ _ _ h2
    | some o =>
      rw [ho] at h2
      have hdo : noDef o = true := List.all_eq_true.1 hd o (by rw [Array.mem_toList_iff]; exact Array.mem_of_getElem? ho)
      simp only at h2 ⊢
      split at h2
      · rename_i hw
        rw [if_pos hw]
        rcases h2 with h2 | h2
        · refine ⟨fun _ _ => trivial, ?_⟩
          rw [show o.semAt (Fence.wide.inRound r).round a.eval = execOp a.eval o from Oper.semAt_some r _ _ (noDef_ne hdo)]
          exact upon_in (any_in hQ hd fuel _ · ·) h2
        · exact absurd h2.2 hQ
      · rename_i hw
        rw [if_neg hw]
        exact ⟨fun _ _ => trivial, any_in hQ hd fuel _ _ _ h2⟩
section
variable {P : Program} {ops : Array Oper} {Q : Exit → Act → World → Prop} {a : Act} {w : World} {r n : Nat}
theorem wi_region {id : Nat} (hQ : ¬ LetsOut Q) (hd : ops.toList.all noDef = true) (h : WL P ops Q ops.toList a w) : (Code.region id ops false).wpIn (Fence.wide.inRound r) n P Q a w :=
  wpIn_region_list (list_in hQ _ _ _ hd h.out)
theorem wi_region_wx {id : Nat} (hQ : ¬ LetsOut Q) (hdf : ops.toList.all noDef = true) (S : World → Prop) (J : Act → World → Prop) (m : Nat) (hm : P.follows .mixedOrders = true) (hc : sureB .any ops = true) (hd : distB ops = true) (hsel : Region.noSelect ops = true) (hn : ops.size = m) (hS : S w.drew)
    (h : WXS P ops J m S [] [] a w.drew) (hk : ∀ a w, J a w → Q .normal a w) : (Code.region id ops true).wpIn (Fence.wide.inRound r) n P Q a w := by
  refine wpIn_region_any hm (any_in hQ hdf _ _ _ _ (wx_sim hc hd hsel hk m S [] [] a w.drew h.go ?_ (fun j o _ h => by simp at h) (fun j h => by simp at h) _ _ a w.drew (Nat.le_trans (List.countP_le_length) (by simp)) (by simp) (fun j hj h => ?_) (fun j o _ h => ?_) ⟨rfl, rfl, fun _ _ => rfl⟩ hS (Below.refl _ _) (fun j o _ h => by simp at h)))
  · subst hn
    unfold cntL
    rw [List.countP_eq_length.2 (by simp)]
    simp
  · simp [hj] at h
  · rw [Array.getD_eq_getD_getElem?, Array.getElem?_replicate] at h
    split at h <;> simp at h
theorem then_atI {y : Code} {a F : Act} {N : Fence} (h : a = F) (hq : y.wpIn N n P Q F w) : Exit.then (y.wpIn N n P Q) Q .normal a w := h ▸ hq
theorem wpIn_count {N : Fence} {c : Code} (I : Nat → Act → World → Prop) (m : Nat) {a : Act} {w : World} (h0 : I 0 a w)
    (round : ∀ i, i < m → ∀ a w, I i a w → c.wpIn N n P (Exit.then (I (i + 1)) Q) a w) (last : ∀ a w, I m a w → c.wpIn N n P (Exit.then (fun _ _ => False) Q) a w) : (Code.loop c).wpIn N n P Q a w := by
  have key : ∀ k i a w, i + k = m → I i a w → Code.roundsIn N n P c Q (k + 1) a w := by
    intro k
    induction k with
    | zero =>
      intro i a w hi hI
      rw [Nat.add_zero] at hi
      subst hi
      exact last a w hI
    | succ k ih =>
      intro i a w hi hI
      rw [roundsIn_succ]
      exact Code.wpIn_mono (fun e a w he => by cases e <;> first | exact ih (i + 1) a w (by omega) he | exact he) (round i (by omega) a w hI)
  exact wpIn_loop_rounds (m + 1) (key m 0 a w (by omega) h0)
end
/-- a list of operations, some of which may yield -/
structure WN (P : Program) (ops : Array Oper) (Q : Exit → Act → World → Prop) (l : List Oper) (a : Act) (w : World) : Prop where
  out : wpListIn Fence.wide 8 P ops Q l a w
section
variable {P : Program} {ops : Array Oper} {Q : Exit → Act → World → Prop} {a : Act} {w : World} {rest : List Oper} {dst : Option Tmp} {ty : TypeId} {pos : String} {aft : Array Edge} {gd : Option (Nat × Bool)}
theorem wn_region {id : Nat} (h : WN P ops Q ops.toList a w) : (Code.region id ops false).wp P Q a w := (wpIn_wide (n := 8)).1 (wpIn_region_list h.out)
theorem wn_nil (h : Q .normal a w) : WN P ops Q [] a w := ⟨h⟩
theorem wn_val {o : Oper} (v : Value) (hw : Region.wanted o (yielded ops a.tmps) = true) (hr : (execOp a.eval o).run P w = .ok (.value v) w) (h : WN P ops Q rest (a.put o.dst v) w) : WN P ops Q (o :: rest) a w := by
  refine ⟨?_⟩
  unfold wpListIn
  rw [if_pos hw]
  refine ⟨fun _ _ => trivial, ?_⟩
  rw [show o.semAt Fence.wide.round a.eval = execOp a.eval o from rfl, hr]
  exact h.out
theorem wn_yield {l : Nat} {x : Operand} {xs : Array Operand} {ats : Array TypeId} {args : Array Value} {fn : FuncId} {tmps : Array Value} {asg body : Code} (hw : Region.wanted ⟨dst, .call { callee := .value x, args := xs, argTypes := ats }, ty, pos, aft, gd⟩ (yielded ops a.tmps) = true)
    (hx : a.eval x = .func (.yield l) #[] #[]) (ha : #[] ++ xs.map a.eval ++ #[] = args) (hy : (Instr.yield l args).run P w = .ok (.round l fn tmps asg body) w)
    (hR : RoundIn Fence.wide 7 P l fn tmps asg body w (fun e w' => ∃ v, e = .returned v ∧ WN P ops Q rest (a.put dst v) w')) : WN P ops Q (⟨dst, .call { callee := .value x, args := xs, argTypes := ats }, ty, pos, aft, gd⟩ :: rest) a w := by
  refine ⟨?_⟩
  unfold wpListIn
  rw [if_pos hw]
  refine ⟨fun _ _ => trivial, ?_⟩
  have hr : (execOp a.eval ⟨dst, .call { callee := .value x, args := xs, argTypes := ats }, ty, pos, aft, gd⟩).run P w = .ok (.round l fn tmps asg body) w := by
    subst ha
    simp only [execOp, resolve, hx, invoke, Deferred.ofValue, Sem.run_bind, Sem.run_pure, Result.andThen_ok]
    exact hy
  rw [show Oper.semAt Fence.wide.round a.eval ⟨dst, .call { callee := .value x, args := xs, argTypes := ats }, ty, pos, aft, gd⟩ = execOp a.eval ⟨dst, .call { callee := .value x, args := xs, argTypes := ats }, ty, pos, aft, gd⟩ from rfl, hr]
  refine ⟨fun e => absurd e (by simp [Fence.wide]), hR.mono ?_⟩
  rintro e w' ⟨v, rfl, h⟩
  exact h.out
end
/-- how a round of the body may end: the loop's own things lie as they lay -/
def rndM {α : Type} (D l : Nat) (r : Loop) (Kp : World → World → Prop) (I Ix : List α → World → Prop) (xs : List α) (W : World) (e : Exit) (_ : Act) (W' : World) : Prop :=
  W'.heap[D]? = some (.deferred (some [])) ∧ W'.heap[l]? = some (.loop r) ∧ ((e = .normal ∧ Kp W W' ∧ I xs W') ∨ (e = .ret ∧ Ix xs W'))
theorem nl_rndM {α : Type} {D l : Nat} {r : Loop} {Kp : World → World → Prop} {I Ix : List α → World → Prop} {xs : List α} {W : World} : ¬ LetsOut (rndM D l r Kp I Ix xs W) := fun ⟨_, _, h⟩ => by
  rcases h.2.2 with h | h
  · cases h.1
  · cases h.1
theorem wp_rangeM {α : Type} {P : Program} {g : Operand} {ps : Array Tmp} {asg body : Code} {Q : Exit → Act → World → Prop} {a : Act} {w : World} {gf : Nat} {rb lb : Array Value}
    (hg : a.eval g = .func (.func gf) rb lb) (eg : ∀ args w, (callFunc gf args).run P w = .ok (.enter gf args) w) {encs : α → Array Value} {Kp : World → World → Prop} {S V : List α → Prop}
    (hseq : SeqR P gf rb lb encs Kp S V w) (hKt : ∀ {A B C : World}, Kp A B → Kp B C → Kp A C)
    (hKb : ∀ (W : World) (l : Nat) (o o' : Obj), w.heap.size ≤ l → W.heap[l]? = some o → o.isCells = false → o.isWalk = false → Kp W (W.putObj l o')) (hps : ∀ x, (encs x).size = ps.size)
    (I Ix : List α → World → Prop) (hI : OwnFrom w.heap.size I) (hIx : OwnFrom w.heap.size Ix) (h0 : I [] w) (a1 : α → Act)
    (hasg : ∀ (l : Nat) (x : α) (W : World) (K : Act → World → Prop), K (a1 x) W → asg.wpIn (Fence.wide.inRound l) 7 P (Exit.then K (fun _ _ _ => False)) { tmps := (ps.zip (encs x)).foldl (fun t (p, v) => t.setIfInBounds p v) a.tmps, defers := [] } W)
    (hbody : ∀ (D l : Nat) (r : Loop) (pre : List α) (x : α) (W : World), w.heap.size ≤ D → w.heap.size ≤ l → D ≠ l → W.heap[D]? = some (.deferred (some [])) → W.heap[l]? = some (.loop r) → I pre W → V (pre ++ [x]) → body.wpIn (Fence.wide.inRound l) 7 P (rndM D l r Kp I Ix (pre ++ [x]) W) (a1 x) W)
    (hdone : ∀ (D : Nat) (xs : List α) (W : World), w.heap.size ≤ D → S xs → I xs W → W.heap[D]? = some (.deferred (some [])) → Q .normal { a with defers := { target := .collected D, args := #[] } :: a.defers } W)
    (hstop : ∀ (D : Nat) (pre : List α) (W : World), w.heap.size ≤ D → Ix pre W → W.heap[D]? = some (.deferred (some [])) → Code.ret.wpIn Fence.wide 9 P Q { a with defers := { target := .collected D, args := #[] } :: a.defers } W) :
    (Code.rangeFunc g ps asg body).wp P Q a w := by
  refine (wpIn_wide (n := 9)).1 (wpIn_rangeFunc fun fn hfn => ?_)
  obtain ⟨W1, hW1⟩ : ∃ W1, W1 = (w.alloc (.deferred (some []))).alloc (.loop (rcd fn a ps asg body w.heap.size .ready none)) := ⟨_, rfl⟩
  have hm1 : W1.heap[w.heap.size]? = some (.deferred (some [])) := by
    rw [hW1]
    exact (Below.heap_alloc _ _ _ (by simp)).trans (World.alloc_heap_new w _)
  have hr1 : W1.heap[w.heap.size + 1]? = some (.loop (rcd fn a ps asg body w.heap.size .ready none)) := by
    have e := World.alloc_heap_new (w.alloc (.deferred (some []))) (.loop (rcd fn a ps asg body w.heap.size .ready none))
    rw [World.size_alloc] at e
    rw [hW1]
    exact e
  have hb1 : Below w.heap.size w W1 := by
    rw [hW1]
    exact ((Below.refl _ w).alloc (Nat.le_refl _) _).alloc (by simp) _
  have hI1 : I [] W1 := by rw [hW1]; exact hI.alloc _ (hI.alloc _ h0)
  have hsz : W1.heap.size = w.heap.size + 2 := by rw [hW1]; simp
  refine ⟨w.heap.size + 1, [{ target := .collected w.heap.size, args := #[] }], W1, { target := .fn (.func gf) lb, args := rb ++ #[.func (.yield (w.heap.size + 1)) #[] #[]] }, W1, gf, rb ++ #[.func (.yield (w.heap.size + 1)) #[] #[]] ++ lb, W1, ?_, ?_, fun _ _ => trivial, ?_, fun _ => by decide, ?_⟩
  · rw [hW1]; exact run_enterLoop_outer fn a.tmps ps asg body
  · simp only [resolve, hg]
    simp [go_sem]
  · simp [invoke, go_sem, eg]
  · have far : ∀ {A : World} {row : Option Nat}, (∀ r, row = some r → W1.heap.size ≤ r ∧ ∃ o : Obj, A.heap[r]? = some o ∧ o.isWalk = true) → ∀ r, row = some r → w.heap.size ≤ r ∧ ∃ o : Obj, A.heap[r]? = some o ∧ o.isCells = false := fun h r e => by
      obtain ⟨h1, o, h2, h3⟩ := h r e
      exact ⟨by omega, o, h2, Obj.not_cells_of_walk h3⟩
    refine (hseq (w.heap.size + 1) (fun pre W => I pre W ∧ W.heap[w.heap.size + 1]? = some (.loop (rcd fn a ps asg body w.heap.size .ready none)) ∧ W.heap[w.heap.size]? = some (.deferred (some [])))
      (fun pre W => Ix pre W ∧ W.heap[w.heap.size + 1]? = some (.loop (rcd fn a ps asg body w.heap.size .done (some .ret))) ∧ W.heap[w.heap.size]? = some (.deferred (some [])))
      W1 hb1 (fun s A B row hs hgr hr => ⟨hI s A B row hs.1 hgr (far hr), (grownBy_keeps hgr (fun r e => (hr r e).2) hs.2.1 rfl).trans hs.2.1, (grownBy_keeps hgr (fun r e => (hr r e).2) hs.2.2 rfl).trans hs.2.2⟩)
      (fun s A B row hs hgr hr => ⟨hIx s A B row hs.1 hgr (far hr), (grownBy_keeps hgr (fun r e => (hr r e).2) hs.2.1 rfl).trans hs.2.1, (grownBy_keeps hgr (fun r e => (hr r e).2) hs.2.2 rfl).trans hs.2.2⟩) ?_ ⟨hI1, hr1, hm1⟩).mono ?_
    · rintro pre x W ⟨hi, hl, hk⟩ hlen
      have hlt := (Array.getElem?_eq_some_iff.1 hl).1
      refine ⟨fn, _, asg, body, run_yield (P := P) (args := encs x) hl (hps x), roundIn_of_wpIn hfn (hasg _ x W _ ⟨_, run_beginRound hl rfl, ?_⟩)⟩
      obtain ⟨W2, hW2⟩ : ∃ W2, W2 = W.putObj (w.heap.size + 1) (.loop (rcd fn a ps asg body w.heap.size .busy none)) := ⟨_, rfl⟩
      have hl2 : W2.heap[w.heap.size + 1]? = some (.loop (rcd fn a ps asg body w.heap.size .busy none)) := by rw [hW2]; exact World.putObj_heap_same hlt
      have hk2 : W2.heap[w.heap.size]? = some (.deferred (some [])) := by rw [hW2]; exact (World.putObj_heap_other (by omega)).trans hk
      have hp2 : Kp W W2 := by rw [hW2]; exact hKb _ _ _ _ (by omega) hl rfl rfl
      have hi2 : I pre W2 := by rw [hW2]; exact hI.putObj _ hi (by omega) hl rfl
      have hB := hbody w.heap.size (w.heap.size + 1) _ pre x W2 (Nat.le_refl _) (by omega) (by omega) hk2 hl2 hi2 hlen
      rw [hW2] at hB
      refine wpIn_mono hB ?_
      rw [← hW2]
      rintro e a3 W3 ⟨hk3, hl3, h⟩
      have hlt3 := (Array.getElem?_eq_some_iff.1 hl3).1
      rcases h with ⟨rfl, hkp, hi3⟩ | ⟨rfl, hi3⟩
      · refine ⟨_, _, run_endRound (P := P) none hl3, .inl ⟨rfl, ⟨hI.putObj _ hi3 (by omega) hl3 rfl, World.putObj_heap_same hlt3, (World.putObj_heap_other (by omega)).trans hk3⟩, hKt (hKt hp2 hkp) (hKb _ _ _ _ (by omega) hl3 rfl rfl)⟩⟩
      · exact ⟨_, _, run_endRound (P := P) (some .ret) hl3, .inr ⟨rfl, hIx.putObj _ hi3 (by omega) hl3 rfl, World.putObj_heap_same hlt3, (World.putObj_heap_other (by omega)).trans hk3⟩⟩
    · rintro e W2 ⟨⟨v, rfl⟩, ⟨xs, hS, hi, hl, hk⟩ | ⟨pre, hi, hl, hk⟩⟩
      · exact ⟨none, _, run_endLoop (P := P) hl (by simp [rcd]), hdone _ xs _ (Nat.le_refl _) hS (hI.putObj _ hi (by omega) hl rfl) ((World.putObj_heap_other (by omega)).trans hk)⟩
      · exact ⟨some .ret, _, run_endLoop (P := P) hl (by simp [rcd]), hstop _ pre _ (Nat.le_refl _) (hIx.putObj _ hi (by omega) hl rfl) ((World.putObj_heap_other (by omega)).trans hk)⟩
theorem HA.marks {w0 W : World} {L : BL} {D l : Nat} {r : Loop} (h : HA (bs w0) L W) (hD : w0.heap.size ≤ D) (hl : w0.heap.size ≤ l) (hne : D ≠ l) (hd : W.heap[D]? = some (.deferred (some []))) (hr : W.heap[l]? = some (.loop r)) : HA ⟨w0, [(D, .df), (l, .lp r)]⟩ L W :=
  ⟨⟨h.old.old, fun m hm => by
    rcases List.mem_cons.1 hm with rfl | hm
    · exact hd
    · obtain rfl := List.mem_singleton.1 hm; exact hr, fun m hm => by
    rcases List.mem_cons.1 hm with rfl | hm
    · exact hD
    · obtain rfl := List.mem_singleton.1 hm; exact hl, by simpa using hne⟩, h.blk, h.own, h.nd⟩
/-- some blocks lie as they lay -/
def KpL (Lk : BL) (A B : World) : Prop := (∀ x ∈ Lk, Blk A x.1 x.2.1 x.2.2) → ∀ x ∈ Lk, Blk B x.1 x.2.1 x.2.2
theorem KpL.trans {Lk : BL} {A B C : World} (h : KpL Lk A B) (k : KpL Lk B C) : KpL Lk A C := fun x => k (h x)
theorem KpL.obj {Lk : BL} (W : World) (l : Nat) (o o' : Obj) (hl : W.heap[l]? = some o) (hc : o.isCells = false) : KpL Lk W (W.putObj l o') := fun h x hx => by
  refine (h x hx).at' (World.putObj_heap_other (fun e => ?_))
  obtain ⟨f, hf, _⟩ := h x hx
  rw [e, hl] at hf
  cases hf
  cases hc
end Go.Proofs.YtckmlaempffpjaaGreat

namespace Go.Proofs.YtckmlaempffpjaaGreat
open Go.RowKit Go.Shelf
attribute [local go_sem] Oper.semAt_some

section
variable {ρ : Operand → Value} {x y z u : Operand} {w : World} {dst : Option Tmp} {ty : TypeId} {pos : String} {aft : Array Edge} {gd : Option (Nat × Bool)}
theorem run_slo {a : Option Addr} {n cap i : Nat} (hx : ρ x = .slice a n cap) (hz : ρ z = iN .i64 i) (hi : i ≤ n) : (execOp ρ ⟨dst, .slice 39 x (some z) none none, ty, pos, aft, gd⟩).run Tryz.prog w = .ok (.value (.slice (if cap = i then a else a.map (·.add i)) (n - i) (cap - i))) w := by
 simp only [execOp, hx, iN] at hz ⊢
 simp [Instr.sliceAt, Instr.slice, Instr.sliceBounds, Instr.sliceBound, run_underlying Tryz.underlying39, Tryz.sizeOf9, hz, asIntOf, hi]
theorem run_sl3 {a : Option Addr} {n cap i e : Nat} (hx : ρ x = .slice a n cap) (hz : ρ z = iN .i64 i) (hy : ρ y = iN .i64 e) (hu : ρ u = iN .i64 e) (hi : i < e) (he : e ≤ cap) : (execOp ρ ⟨dst, .slice 39 x (some z) (some y) (some u), ty, pos, aft, gd⟩).run Tryz.prog w = .ok (.value (.slice (a.map (·.add i)) (e - i) (e - i))) w := by
 simp only [execOp, hx, iN] at hz hy hu ⊢
 have h0 : e ≠ i := by omega
 simp [Instr.sliceAt, Instr.slice, Instr.sliceBounds, Instr.sliceBound, run_underlying Tryz.underlying39, Tryz.sizeOf9, hz, hy, hu, asIntOf, he, Nat.le_of_lt hi, h0]
end
/-- a piece of keys -/
def encC (po : Option Addr) (n j : Nat) : Array Value := #[.slice (po.map (·.add (64 * j))) (min 64 (n - 64 * j)) (min 64 (n - 64 * j))]
set_option linter.unusedVariables false in
set_option maxRecDepth 100000 in
set_option maxHeartbeats 4000000 in
theorem chunk_calls {po : Option Addr} {pc n b2 b3 : Nat} {w : World} {B l : Nat} {J Jx : List Nat → World → Prop} (hJ : AbidesFrom B J) (hB2 : Blk w b2 39 #[.slice po n pc]) (hB3 : Blk w b3 3 #[iN .i64 64]) (hn : n ≤ 1000000000) (hpc : n ≤ pc) (hY : ∀ x W1, J (List.range x) W1 → 64 * x < n → YieldAt Fence.wide 7 Tryz.prog l (encC po n x) W1 fun e W' => (e = .returned (.bool true) ∧ J (List.range (x + 1)) W' ∧ KpL [(b2, 39, #[.slice po n pc]), (b3, 3, #[iN .i64 64])] W1 W') ∨ (e = .returned (.bool false) ∧ Jx (List.range (x + 1)) W')) (h0 : J [] w) :
  Calls Tryz.prog 131 #[.func (.yield l) #[] #[], pt b2, pt b3] w fun e w' => (∃ v, e = .returned v) ∧ ((∃ xs, xs = List.range ((n + 63) / 64) ∧ J xs w') ∨ ∃ pre, Jx pre w') := by
 have H0 := HA.start w
 go_enter Tryz.func131, Tryz.ntmps131
 refine wp_seq ?_
 refine wl_region ?_
 refine zwv (iN .i64 0) ?_
 refine wl_nil ?_
 refine then_at (F := ⟨(.func (.yield l) #[] #[] :: pt b2 :: pt b3 :: un :: iN .i64 0 :: List.replicate 26 un).toArray, []⟩) (by kernel_rfl) ?_
 refine wp_block ?_
 refine wp_count (fun k A w' => ∃ u1 : Nat → Value, A = ⟨(.func (.yield l) #[] #[] :: pt b2 :: pt b3 :: un :: iN .i64 (64 * k) :: u1 5 :: u1 6 :: u1 7 :: u1 8 :: u1 9 :: u1 10 :: u1 11 :: u1 12 :: u1 13 :: u1 14 :: u1 15 :: u1 16 :: u1 17 :: u1 18 :: u1 19 :: u1 20 :: u1 21 :: u1 22 :: u1 23 :: u1 24 :: u1 25 :: u1 26 :: u1 27 :: u1 28 :: u1 29 :: u1 30 :: List.replicate 0 un).toArray, []⟩ ∧ J (List.range k) w' ∧ Blk w' b2 39 #[.slice po n pc] ∧ Blk w' b3 3 #[iN .i64 64]) ((n + 63) / 64) ?_ ?_ ?_
 ·exact ⟨fun ii => (([(5, undef), (6, undef), (7, undef), (8, undef), (9, undef), (10, undef), (11, undef), (12, undef), (13, undef), (14, undef), (15, undef), (16, undef), (17, undef), (18, undef), (19, undef), (20, undef), (21, undef), (22, undef), (23, undef), (24, undef), (25, undef), (26, undef), (27, undef), (28, undef), (29, undef), (30, undef)] : List (Nat × Value)).find? (·.1 == ii)).elim undef (·.2), by kernel_rfl, abides hJ h0 H0.old.old, hB2.keep H0.old.old, hB3.keep H0.old.old⟩
 ·rintro k hk _ w2 ⟨u1, rfl, hJk, hBk2, hBk3⟩
  have hL := HA.start w2
  have hk6 : 64 * k < n := by omega
  refine wp_seq ?_
  refine wp_seq ?_
  refine wl_region ?_
  refine zwv (iN .i64 (64 * k)) ?_
  refine zwx (.slice po n pc) (run_load1 (fun w => Tryz.isAgg39 w) (by kernel_rfl) (((hBk2.keep hL.old.old).cell 0).trans rfl)) ?_
  refine zwv (iN .i64 n) ?_
  refine zwx (.bool true) (run_lss (k := .i64) (a := 64 * k) (b := n) (by kernel_rfl) (by kernel_rfl) true (decide_eq_true (by omega))) ?_
  refine wl_nil ?_
  refine then_at (F := ⟨(.func (.yield l) #[] #[] :: pt b2 :: pt b3 :: un :: iN .i64 (64 * k) :: u1 5 :: iN .i64 (64 * k) :: .slice po n pc :: iN .i64 n :: .bool true :: u1 10 :: u1 11 :: u1 12 :: u1 13 :: u1 14 :: u1 15 :: u1 16 :: u1 17 :: u1 18 :: u1 19 :: u1 20 :: u1 21 :: u1 22 :: u1 23 :: u1 24 :: u1 25 :: u1 26 :: u1 27 :: u1 28 :: u1 29 :: u1 30 :: List.replicate 0 un).toArray, []⟩) (by kernel_rfl) ?_
  refine wp_cond_true (by kernel_rfl) ?_
  refine wp_skip ?_
  refine then_at (F := ⟨(.func (.yield l) #[] #[] :: pt b2 :: pt b3 :: un :: iN .i64 (64 * k) :: u1 5 :: iN .i64 (64 * k) :: .slice po n pc :: iN .i64 n :: .bool true :: u1 10 :: u1 11 :: u1 12 :: u1 13 :: u1 14 :: u1 15 :: u1 16 :: u1 17 :: u1 18 :: u1 19 :: u1 20 :: u1 21 :: u1 22 :: u1 23 :: u1 24 :: u1 25 :: u1 26 :: u1 27 :: u1 28 :: u1 29 :: u1 30 :: List.replicate 0 un).toArray, []⟩) (by kernel_rfl) ?_
  refine wp_seq ?_
  refine wp_block ?_
  refine wp_seq ?_
  refine wp_region_sure ⟨(.func (.yield l) #[] #[] :: pt b2 :: pt b3 :: un :: iN .i64 (64 * k) :: iN .i64 (min 64 (n - 64 * k)) :: iN .i64 (64 * k) :: .slice po n pc :: iN .i64 n :: .bool true :: u1 10 :: u1 11 :: u1 12 :: iN .i64 64 :: .slice po n pc :: iN .i64 (64 * k) :: .slice (if pc = 64 * k then po else po.map (·.add (64 * k))) (n - 64 * k) (pc - 64 * k) :: iN .i64 (n - 64 * k) :: iN .i64 (min 64 (n - 64 * k)) :: u1 19 :: u1 20 :: u1 21 :: u1 22 :: u1 23 :: u1 24 :: u1 25 :: u1 26 :: u1 27 :: u1 28 :: u1 29 :: u1 30 :: List.replicate 0 un).toArray, []⟩ (HA (bs w2) []) [iN .i64 64, .slice po n pc, iN .i64 (64 * k), .slice (if pc = 64 * k then po else po.map (·.add (64 * k))) (n - 64 * k) (pc - 64 * k), iN .i64 (n - 64 * k), iN .i64 (min 64 (n - 64 * k)), iN .i64 (min 64 (n - 64 * k))] (by kernel_rfl) (by kernel_rfl) (by kernel_rfl) (by kernel_rfl) (fun _ _ _ h => h) hL.drew ?_ ?_
  ·refine AllSure.cons (OpSure.take (v := iN .i64 64) (by kernel_rfl) (by kernel_rfl) (fun w' h' => run_load1 (fun w => Tryz.isAgg3 w) (by kernel_rfl) (((hBk3.keep h'.old.old).cell 0).trans rfl))) ?_
   refine AllSure.cons (OpSure.take (v := .slice po n pc) (by kernel_rfl) (by kernel_rfl) (fun w' h' => run_load1 (fun w => Tryz.isAgg39 w) (by kernel_rfl) (((hBk2.keep h'.old.old).cell 0).trans rfl))) ?_
   refine AllSure.cons (OpSure.take (v := iN .i64 (64 * k)) (by kernel_rfl) (by kernel_rfl) (fun _ _ => (by kernel_rfl))) ?_
   refine AllSure.cons (OpSure.take (v := .slice (if pc = 64 * k then po else po.map (·.add (64 * k))) (n - 64 * k) (pc - 64 * k)) (by kernel_rfl) (by kernel_rfl) (fun _ _ => (run_slo (a := po) (n := n) (cap := pc) (i := 64 * k) (by kernel_rfl) (by kernel_rfl) (by omega)))) ?_
   refine AllSure.cons (OpSure.take (v := iN .i64 (n - 64 * k)) (by kernel_rfl) (by kernel_rfl) (fun _ _ => (by kernel_rfl))) ?_
   refine AllSure.cons (OpSure.take (v := iN .i64 (min 64 (n - 64 * k))) (by kernel_rfl) (by kernel_rfl) (fun _ _ => (run_min (by kernel_rfl) (by kernel_rfl)))) ?_
   refine AllSure.cons (OpSure.take (v := iN .i64 (min 64 (n - 64 * k))) (by kernel_rfl) (by kernel_rfl) (fun _ _ => (by kernel_rfl))) ?_
   exact AllSure.nil
  intro w3 h4
  refine then_at (F := ⟨(.func (.yield l) #[] #[] :: pt b2 :: pt b3 :: un :: iN .i64 (64 * k) :: iN .i64 (min 64 (n - 64 * k)) :: iN .i64 (64 * k) :: .slice po n pc :: iN .i64 n :: .bool true :: u1 10 :: u1 11 :: u1 12 :: iN .i64 64 :: .slice po n pc :: iN .i64 (64 * k) :: .slice (if pc = 64 * k then po else po.map (·.add (64 * k))) (n - 64 * k) (pc - 64 * k) :: iN .i64 (n - 64 * k) :: iN .i64 (min 64 (n - 64 * k)) :: u1 19 :: u1 20 :: u1 21 :: u1 22 :: u1 23 :: u1 24 :: u1 25 :: u1 26 :: u1 27 :: u1 28 :: u1 29 :: u1 30 :: List.replicate 0 un).toArray, []⟩) (by kernel_rfl) ?_
  refine wp_seq ?_
  have hJy := abides hJ hJk h4.old.old
  have hBy2 := hBk2.keep h4.old.old
  have hBy3 := hBk3.keep h4.old.old
  obtain ⟨fnY, tmpsY, asgY, bodyY, hy, hRY⟩ := hY k _ hJy hk6
  have hy9 := hy
  rw [encC, show min 64 (n - 64 * k) = 64 * k + min 64 (n - 64 * k) - 64 * k by omega] at hy9
  clear hy
  refine wn_region ?_
  refine wn_val (.func (.yield l) #[] #[]) (by kernel_rfl) (by kernel_rfl) ?_
  refine wn_val (.slice po n pc) (by kernel_rfl) (run_load1 (fun w => Tryz.isAgg39 w) (by kernel_rfl) (((hBk2.keep h4.old.old).cell 0).trans rfl)) ?_
  refine wn_val (iN .i64 (64 * k)) (by kernel_rfl) (by kernel_rfl) ?_
  refine wn_val (iN .i64 (64 * k)) (by kernel_rfl) (by kernel_rfl) ?_
  refine wn_val (iN .i64 (min 64 (n - 64 * k))) (by kernel_rfl) (by kernel_rfl) ?_
  refine wn_val (iN .i64 ((64 * k) + (min 64 (n - 64 * k)))) (by kernel_rfl) (run_add (k := .i64) (a := 64 * k) (b := min 64 (n - 64 * k)) (by kernel_rfl) (by kernel_rfl) (by first | omega | (simp only [top]; omega))) ?_
  refine wn_val (iN .i64 (64 * k)) (by kernel_rfl) (by kernel_rfl) ?_
  refine wn_val (iN .i64 (min 64 (n - 64 * k))) (by kernel_rfl) (by kernel_rfl) ?_
  refine wn_val (iN .i64 ((64 * k) + (min 64 (n - 64 * k)))) (by kernel_rfl) (run_add (k := .i64) (a := 64 * k) (b := min 64 (n - 64 * k)) (by kernel_rfl) (by kernel_rfl) (by first | omega | (simp only [top]; omega))) ?_
  refine wn_val (.slice (po.map (·.add (64 * k))) (64 * k + min 64 (n - 64 * k) - 64 * k) (64 * k + min 64 (n - 64 * k) - 64 * k)) (by kernel_rfl) (run_sl3 (a := po) (n := n) (cap := pc) (i := 64 * k) (e := 64 * k + min 64 (n - 64 * k)) (by kernel_rfl) (by kernel_rfl) (by kernel_rfl) (by kernel_rfl) (by omega) (by omega)) ?_
  refine wn_yield (l := l) (by kernel_rfl) (by kernel_rfl) (by kernel_rfl) hy9 (hRY.mono ?_)
  rintro e W3 (⟨rfl, hJ3, hk3⟩ | ⟨rfl, hJx3⟩)
  ·have hs3 := HA.start W3
   refine ⟨_, rfl, ?_⟩
   refine wn_val (.bool false) (by kernel_rfl) (by kernel_rfl) ?_
   refine wn_nil ?_
   have hkk := hk3 (fun x hx => by rcases List.mem_cons.1 hx with rfl | hx; exact hBy2; obtain rfl := List.mem_singleton.1 hx; exact hBy3)
   have hBz2 := hkk _ (List.mem_cons_self ..)
   have hBz3 := hkk _ (List.mem_cons_of_mem _ (List.mem_cons_self ..))
   refine then_at (F := ⟨(.func (.yield l) #[] #[] :: pt b2 :: pt b3 :: un :: iN .i64 (64 * k) :: iN .i64 (min 64 (n - 64 * k)) :: iN .i64 (64 * k) :: .slice po n pc :: iN .i64 n :: .bool true :: u1 10 :: u1 11 :: u1 12 :: iN .i64 64 :: .slice po n pc :: iN .i64 (64 * k) :: .slice (if pc = 64 * k then po else po.map (·.add (64 * k))) (n - 64 * k) (pc - 64 * k) :: iN .i64 (n - 64 * k) :: iN .i64 (min 64 (n - 64 * k)) :: .func (.yield l) #[] #[] :: .slice po n pc :: iN .i64 (64 * k) :: iN .i64 (64 * k) :: iN .i64 (min 64 (n - 64 * k)) :: iN .i64 ((64 * k) + (min 64 (n - 64 * k))) :: iN .i64 (64 * k) :: iN .i64 (min 64 (n - 64 * k)) :: iN .i64 ((64 * k) + (min 64 (n - 64 * k))) :: .slice (po.map (·.add (64 * k))) (64 * k + min 64 (n - 64 * k) - 64 * k) (64 * k + min 64 (n - 64 * k) - 64 * k) :: .bool true :: .bool false :: List.replicate 0 un).toArray, []⟩) (by kernel_rfl) ?_
   refine wp_cond_false (by kernel_rfl) ?_
   refine wp_skip ?_
   refine block_normal ?_
   refine then_at (F := ⟨(.func (.yield l) #[] #[] :: pt b2 :: pt b3 :: un :: iN .i64 (64 * k) :: iN .i64 (min 64 (n - 64 * k)) :: iN .i64 (64 * k) :: .slice po n pc :: iN .i64 n :: .bool true :: u1 10 :: u1 11 :: u1 12 :: iN .i64 64 :: .slice po n pc :: iN .i64 (64 * k) :: .slice (if pc = 64 * k then po else po.map (·.add (64 * k))) (n - 64 * k) (pc - 64 * k) :: iN .i64 (n - 64 * k) :: iN .i64 (min 64 (n - 64 * k)) :: .func (.yield l) #[] #[] :: .slice po n pc :: iN .i64 (64 * k) :: iN .i64 (64 * k) :: iN .i64 (min 64 (n - 64 * k)) :: iN .i64 ((64 * k) + (min 64 (n - 64 * k))) :: iN .i64 (64 * k) :: iN .i64 (min 64 (n - 64 * k)) :: iN .i64 ((64 * k) + (min 64 (n - 64 * k))) :: .slice (po.map (·.add (64 * k))) (64 * k + min 64 (n - 64 * k) - 64 * k) (64 * k + min 64 (n - 64 * k) - 64 * k) :: .bool true :: .bool false :: List.replicate 0 un).toArray, []⟩) (by kernel_rfl) ?_
   refine wl_region ?_
   refine zwv (iN .i64 (64 * k)) ?_
   refine zwx (iN .i64 64) (run_load1 (fun w => Tryz.isAgg3 w) (by kernel_rfl) (((hBz3.keep hs3.old.old).cell 0).trans rfl)) ?_
   refine zwx (iN .i64 ((64 * k) + 64)) (run_add (k := .i64) (a := 64 * k) (b := 64) (by kernel_rfl) (by kernel_rfl) (by first | omega | (simp only [top]; omega))) ?_
   refine zwv (iN .i64 ((64 * k) + 64)) ?_
   refine wl_nil ?_
   exact then_I ⟨fun ii => (([(5, iN .i64 (min 64 (n - 64 * k))), (6, iN .i64 (64 * k)), (7, .slice po n pc), (8, iN .i64 n), (9, .bool true), (10, iN .i64 (64 * k)), (11, iN .i64 64), (12, iN .i64 ((64 * k) + 64)), (13, iN .i64 64), (14, .slice po n pc), (15, iN .i64 (64 * k)), (16, .slice (if pc = 64 * k then po else po.map (·.add (64 * k))) (n - 64 * k) (pc - 64 * k)), (17, iN .i64 (n - 64 * k)), (18, iN .i64 (min 64 (n - 64 * k))), (19, .func (.yield l) #[] #[]), (20, .slice po n pc), (21, iN .i64 (64 * k)), (22, iN .i64 (64 * k)), (23, iN .i64 (min 64 (n - 64 * k))), (24, iN .i64 ((64 * k) + (min 64 (n - 64 * k)))), (25, iN .i64 (64 * k)), (26, iN .i64 (min 64 (n - 64 * k))), (27, iN .i64 ((64 * k) + (min 64 (n - 64 * k)))), (28, .slice (po.map (·.add (64 * k))) (64 * k + min 64 (n - 64 * k) - 64 * k) (64 * k + min 64 (n - 64 * k) - 64 * k)), (29, .bool true), (30, .bool false)] : List (Nat × Value)).find? (·.1 == ii)).elim undef (·.2), by kernel_rfl, abides hJ hJ3 hs3.old.old, hBz2.keep hs3.old.old, hBz3.keep hs3.old.old⟩
  ·have hs3 := HA.start W3
   refine ⟨_, rfl, ?_⟩
   refine wn_val (.bool true) (by kernel_rfl) (by kernel_rfl) ?_
   refine wn_nil ?_
   refine then_at (F := ⟨(.func (.yield l) #[] #[] :: pt b2 :: pt b3 :: un :: iN .i64 (64 * k) :: iN .i64 (min 64 (n - 64 * k)) :: iN .i64 (64 * k) :: .slice po n pc :: iN .i64 n :: .bool true :: u1 10 :: u1 11 :: u1 12 :: iN .i64 64 :: .slice po n pc :: iN .i64 (64 * k) :: .slice (if pc = 64 * k then po else po.map (·.add (64 * k))) (n - 64 * k) (pc - 64 * k) :: iN .i64 (n - 64 * k) :: iN .i64 (min 64 (n - 64 * k)) :: .func (.yield l) #[] #[] :: .slice po n pc :: iN .i64 (64 * k) :: iN .i64 (64 * k) :: iN .i64 (min 64 (n - 64 * k)) :: iN .i64 ((64 * k) + (min 64 (n - 64 * k))) :: iN .i64 (64 * k) :: iN .i64 (min 64 (n - 64 * k)) :: iN .i64 ((64 * k) + (min 64 (n - 64 * k))) :: .slice (po.map (·.add (64 * k))) (64 * k + min 64 (n - 64 * k) - 64 * k) (64 * k + min 64 (n - 64 * k) - 64 * k) :: .bool false :: .bool true :: List.replicate 0 un).toArray, []⟩) (by kernel_rfl) ?_
   refine wp_cond_true (by kernel_rfl) ?_
   refine wp_ret ?_
   repeat first | refine then_ret ?_ | refine block_ret ?_
   exact bodyPost_ret (v := .tuple #[]) (by kernel_rfl) rfl ⟨⟨_, rfl⟩, .inr ⟨_, hJx3⟩⟩
 ·rintro _ w5 ⟨u1, rfl, hJk, hBk2, hBk3⟩
  have hL := HA.start w5
  refine wp_seq ?_
  refine wp_seq ?_
  refine wl_region ?_
  refine zwv (iN .i64 (64 * ((n + 63) / 64))) ?_
  refine zwx (.slice po n pc) (run_load1 (fun w => Tryz.isAgg39 w) (by kernel_rfl) (((hBk2.keep hL.old.old).cell 0).trans rfl)) ?_
  refine zwv (iN .i64 n) ?_
  refine zwx (.bool false) (run_lss (k := .i64) (a := 64 * ((n + 63) / 64)) (b := n) (by kernel_rfl) (by kernel_rfl) false (decide_eq_false (by omega))) ?_
  refine wl_nil ?_
  refine then_at (F := ⟨(.func (.yield l) #[] #[] :: pt b2 :: pt b3 :: un :: iN .i64 (64 * ((n + 63) / 64)) :: u1 5 :: iN .i64 (64 * ((n + 63) / 64)) :: .slice po n pc :: iN .i64 n :: .bool false :: u1 10 :: u1 11 :: u1 12 :: u1 13 :: u1 14 :: u1 15 :: u1 16 :: u1 17 :: u1 18 :: u1 19 :: u1 20 :: u1 21 :: u1 22 :: u1 23 :: u1 24 :: u1 25 :: u1 26 :: u1 27 :: u1 28 :: u1 29 :: u1 30 :: List.replicate 0 un).toArray, []⟩) (by kernel_rfl) ?_
  refine wp_cond_false (by kernel_rfl) ?_
  refine wp_exit ?_
  repeat first | refine then_exit ?_ | refine block_exit ?_ | refine block_exit_ne (by decide) ?_
  exact bodyPost_end (v := .tuple #[]) (by kernel_rfl) rfl ⟨⟨_, rfl⟩, .inl ⟨_, rfl, hJk⟩⟩
theorem range_snoc {pre : List Nat} {x m : Nat} (h : pre ++ [x] = List.range (m + 1)) : pre = List.range x ∧ x = m := by
 rw [List.range_succ] at h
 obtain ⟨h1, h2⟩ := List.append_inj' h rfl
 obtain rfl : x = m := by simpa using h2
 exact ⟨h1, rfl⟩
theorem chunk_seq {po : Option Addr} {pc n b2 b3 : Nat} {w : World} (hB2 : Blk w b2 39 #[.slice po n pc]) (hB3 : Blk w b3 3 #[iN .i64 64]) (hn : n ≤ 1000000000) (hpc : n ≤ pc) :
  SeqR Tryz.prog 131 #[] #[pt b2, pt b3] (encC po n) (KpL [(b2, 39, #[.slice po n pc]), (b3, 3, #[iN .i64 64])]) (fun xs => xs = List.range ((n + 63) / 64)) (fun xs => ∃ m, xs = List.range (m + 1) ∧ 64 * m < n) w := fun l J Jx W hW hJ hJx hY h0 =>
 callsIn_wide.2 (chunk_calls hJ (hB2.keep hW) (hB3.keep hW) hn hpc (fun x W1 hj hx => by
  have h := hY (List.range x) x W1 hj ⟨x, List.range_succ.symm, hx⟩
  rw [← List.range_succ] at h
  exact h) h0)
set_option linter.unusedVariables false in
set_option maxRecDepth 100000 in
set_option maxHeartbeats 2000000 in
theorem chunk_any {po : Option Addr} {pc n : Nat} {z : Base} {L : BL} {w : World} (H0 : HA z L w) :
  Calls Tryz.prog 96 #[.slice po n pc, iN .i64 64] w fun e w' => ∃ b2 b3, e = .returned (.func (.func 131) #[] #[pt b2, pt b3]) ∧ HA z ((b3, 3, #[iN .i64 64]) :: (b2, 39, #[.slice po n pc]) :: L) w' := by
 go_enter Tryz.func96, Tryz.ntmps96
 refine wp_seq ?_
 refine wl_region ?_
 refine wl_make (c := #[.slice po n pc]) H0 39 (by kernel_rfl) (by kernel_rfl) ?_
 intro q1 w2 (h3 : HA z ((q1, 39, #[.slice po n pc]) :: L) w2)
 refine wl_make (c := #[iN .i64 64]) h3 3 (by kernel_rfl) (by kernel_rfl) ?_
 intro q4 w5 (h6 : HA z ((q4, 3, #[iN .i64 64]) :: (q1, 39, #[.slice po n pc]) :: L) w5)
 refine zwv (.nilFunc) ?_
 refine wl_nil ?_
 refine then_at (F := ⟨(.slice po n pc :: iN .i64 64 :: pt q1 :: pt q4 :: .nilFunc :: List.replicate 4 un).toArray, []⟩) (by kernel_rfl) ?_
 refine wp_seq ?_
 refine wp_seq ?_
 refine wl_region ?_
 refine zwx (iN .i64 64) (run_load1 (fun w => Tryz.isAgg3 w) (by kernel_rfl) (((h6.get 0 rfl).cell 0).trans rfl)) ?_
 refine zwx (.bool false) (run_lss (k := .i64) (a := 64) (b := 1) (by kernel_rfl) (by kernel_rfl) false (by decide)) ?_
 refine wl_nil ?_
 refine then_at (F := ⟨(.slice po n pc :: iN .i64 64 :: pt q1 :: pt q4 :: .nilFunc :: iN .i64 64 :: .bool false :: List.replicate 2 un).toArray, []⟩) (by kernel_rfl) ?_
 refine wp_cond_false (by kernel_rfl) ?_
 refine wp_skip ?_
 refine then_at (F := ⟨(.slice po n pc :: iN .i64 64 :: pt q1 :: pt q4 :: .nilFunc :: iN .i64 64 :: .bool false :: List.replicate 2 un).toArray, []⟩) (by kernel_rfl) ?_
 refine wp_seq ?_
 refine wl_region ?_
 refine zwv (.func (.func 131) #[] #[.pointer (some ⟨q1, 0, none⟩), .pointer (some ⟨q4, 0, none⟩)]) ?_
 refine zwv (.func (.func 131) #[] #[.pointer (some ⟨q1, 0, none⟩), .pointer (some ⟨q4, 0, none⟩)]) ?_
 refine wl_nil ?_
 refine then_at (F := ⟨(.slice po n pc :: iN .i64 64 :: pt q1 :: pt q4 :: .func (.func 131) #[] #[pt q1, pt q4] :: iN .i64 64 :: .bool false :: un :: .func (.func 131) #[] #[pt q1, pt q4] :: List.replicate 0 un).toArray, []⟩) (by kernel_rfl) ?_
 refine wp_ret ?_
 repeat first | refine then_ret ?_ | refine block_ret ?_
 exact bodyPost_ret (v := .func (.func 131) #[] #[pt q1, pt q4]) (by kernel_rfl) rfl ⟨q1, q4, rfl, h6⟩
end Go.Proofs.YtckmlaempffpjaaGreat

namespace Go.Proofs.YtckmlaempffpjaaGreat
open Go.RowKit Go.Shelf

def kys (l : List Rw) : List ByteArray := (keyL l).map fun b => ⟨b.toArray⟩
def rowOf (l : List Rw) (k : ByteArray) : Rw := (l.find? fun x => decide (x.k = k)).getD ⟨k, { data := #[] }⟩
/-- the rows in the order of their keys -/
def ordR (l : List Rw) : List Rw := (kys l).map (rowOf l)
def pieceR (l : List Rw) (j : Nat) : List Rw := (l.drop (64 * j)).take 64
def packK (l : List Rw) (js : List Nat) : List UInt8 := js.flatMap fun j => frameB (pieceR (ordR l) j) []
/-- what Pack lays -/
def packL (l : List Rw) : List UInt8 := packK l (List.range ((l.length + 63) / 64))
def packB (l : List Rw) : ByteArray := ⟨(packL l).toArray⟩
theorem keyL_len (l : List Rw) : (keyL l).length = l.length := by rw [keyL, List.length_mergeSort, List.length_map]
theorem kys_len (l : List Rw) : (kys l).length = l.length := by rw [kys, List.length_map, keyL_len]
theorem ordR_len (l : List Rw) : (ordR l).length = l.length := by rw [ordR, List.length_map, kys_len]
theorem kys_enc (l : List Rw) : (keyL l).map encStr = scl (kys l) := by
  rw [scl, kys, List.map_map]
  exact List.map_congr_left fun b _ => rfl
theorem kys_mem {l : List Rw} {k : ByteArray} (h : k ∈ kys l) : ∃ x ∈ l, x.k = k := by
  obtain ⟨b, hb, rfl⟩ := List.mem_map.1 h
  obtain ⟨x, hx, rfl⟩ := List.mem_map.1 ((List.mergeSort_perm _ _).mem_iff.1 hb)
  exact ⟨x, hx, by simp [bl]⟩
theorem key_row {rs : List Re} {nx i : Nat} {k : ByteArray} (hK : RK rs nx) (h : (kys (rws rs))[i]? = some k) : ∃ A f B, rs = A ++ f :: B ∧ f.r.k = k ∧ (∀ g ∈ A, g.r.k ≠ k) ∧ (ordR (rws rs))[i]? = some f.r := by
  obtain ⟨x, hx, hk⟩ := kys_mem (List.mem_of_getElem? h)
  obtain ⟨f, hf, rfl⟩ := rws_mem.1 hx
  obtain ⟨A, f, B, e, hf2, hA, hB⟩ := re_split hK.nms ⟨f, hf, hk⟩
  refine ⟨A, f, B, e, hf2, hA, ?_⟩
  rw [ordR, List.getElem?_map, h, Option.map_some, rowOf, e, rws_app, rws_cons, List.find?_append, List.find?_eq_none.2 (fun y hy => by
    obtain ⟨g, hg, rfl⟩ := rws_mem.1 hy
    simpa using hA g hg)]
  simp [hf2]
theorem piece_get (l : List Rw) (j k : Nat) (hk : k < 64) : (pieceR l j)[k]? = l[64 * j + k]? := by
  rw [pieceR, List.getElem?_take, if_pos hk, List.getElem?_drop]
theorem piece_len (l : List Rw) (j : Nat) : (pieceR l j).length = min 64 (l.length - 64 * j) := by simp [pieceR]
theorem packK_snoc (l : List Rw) (x : Nat) : packK l (List.range (x + 1)) = packK l (List.range x) ++ frameB (pieceR (ordR l) x) [] := by
  rw [List.range_succ, packK, packK, List.flatMap_append]
  simp
theorem packK_le (l : List Rw) (x : Nat) (hx : x ≤ (l.length + 63) / 64) : (packK l (List.range x)).length ≤ (packL l).length := by
  have h := flat_le (List.range ((l.length + 63) / 64)) x (fun j => frameB (pieceR (ordR l) j) [])
  rw [List.take_range, Nat.min_eq_left hx] at h
  exact h
theorem frameB_len (ps : List Rw) (ds : List ByteArray) : (frameB ps ds).length = 4 + (bodyB ps ds).length := by rw [frameB, List.length_append, Wi.be_length]
section
variable {w : World} {r nx : Nat} {A B : List Re} {f : Re} {s : ByteArray} {ρ : Operand → Value} {x y : Operand} {dst : Option Tmp} {ty : TypeId} {pos : String} {aft : Array Edge} {gd : Option (Nat × Bool)}
theorem run_lookR1 (hb : w.heap[r]? = some (.map (eR (A ++ f :: B)) nx)) (hf : f.r.k = s) (hn : ∀ g ∈ A, g.r.k ≠ s) (hx : ρ x = .map (some r)) (hy : ρ y = .string s) :
    (execOp ρ ⟨dst, .lookup 71 x y false, ty, pos, aft, gd⟩).run Tryz.prog w = .ok (.value (rwv f.r)) w := by
  have hg : (getObj r).run Tryz.prog w = .ok (.map (eR (A ++ f :: B)) nx) w := by simp [getObj, Sem.run, hb]
  have hf : (Instr.findKey 9 (.string s) (eR (A ++ f :: B)).toList).run Tryz.prog w = .ok (some (0 + A.length, rwv f.r)) w := MapKept.run_findKey Tryz.underlying9 (findNow_R' s f B hf A 0 hn)
  simp [execOp, hx, hy, Instr.lookup, run_underlying Tryz.underlying71, hg, check_txt, hf]
end
/-- what is held between two pieces -/
def PkI (w0 : World) (bb : Nat) (LF : BL) (acc : List UInt8) (W : World) : Prop :=
  ∃ p v Lr, BuP bb p ∧ RowB v acc Lr ∧ (acc = [] → v = .slice none 0 0) ∧ HA (bs w0) ((bb, 147, #[p, v]) :: (Lr ++ LF)) W
theorem PkI.own {α : Type} {w0 : World} {bb B : Nat} {LF : BL} (hB : w0.heap.size ≤ B) (acc : List α → List UInt8) : OwnFrom B (fun pre W => PkI w0 bb LF (acc pre) W) := fun _ _ _ _ hs hg hr => by
  obtain ⟨p, v, Lr, h1, h2, h3, H⟩ := hs
  exact ⟨p, v, Lr, h1, h2, h3, H.grownO hg (fun r e => ⟨Nat.le_trans hB (hr r e).1, (hr r e).2⟩)⟩
theorem own_false {α : Type} {B : Nat} : OwnFrom B (fun (_ : List α) (_ : World) => False) := fun _ _ _ _ h => h.elim
theorem perm_w (c b : Nat × TypeId × Array Value) (Lp Lr LF : BL) : (c :: b :: (Lp ++ (Lr ++ LF))).Perm (b :: (Lr ++ (c :: (Lp ++ LF)))) := by
  refine (List.Perm.swap b c _).trans (List.Perm.cons _ ?_)
  exact (List.Perm.cons c (perm_mv Lp Lr LF)).trans (perm_mv [c] Lr (Lp ++ LF))
end Go.Proofs.YtckmlaempffpjaaGreat

namespace Go.Proofs.YtckmlaempffpjaaGreat
open Go.RowKit Go.Shelf
attribute [local go_sem] Oper.semAt_some

theorem perm_p (a b : Nat × TypeId × Array Value) (LN : BL) (k x q : Nat × TypeId × Array Value) : (a :: b :: (LN ++ [k, x, q])).Perm (x :: ([] ++ (a :: b :: (LN ++ [k, q])))) := by
 have h : (LN ++ [k, x, q]).Perm (x :: (LN ++ [k, q])) := by
  have h1 : (LN ++ k :: x :: [q]).Perm (LN ++ x :: k :: [q]) := List.Perm.append_left _ (List.Perm.swap _ _ _)
  exact h1.trans List.perm_middle
 have h2 : ([a, b] ++ (LN ++ [k, x, q])).Perm ([a, b] ++ (x :: (LN ++ [k, q]))) := List.Perm.append_left _ h
 exact h2.trans (List.perm_middle (l₁ := [a, b]) (a := x) (l₂ := LN ++ [k, q]))
set_option linter.unusedVariables false in
set_option maxRecDepth 100000 in
set_option maxHeartbeats 8000000 in
theorem packed_any {w : World} {q dq r size nx : Nat} {rs : List Re} {rows : List Rw} {laid : Nat} (hq : Blk w q 73 (scell dq r laid size)) (hm : w.heap[r]? = some (.map (eR rs) nx)) (hrs : rws rs = rows) (hK : RK rs nx) (hns : ∀ f ∈ rs, f.r.k.size ≤ 64) (hct : rs.length ≤ 1000000000) (hpt : (packL rows).length ≤ 1000000000) :
  Calls Tryz.prog 48 #[pt q] w fun e w' => e = .returned (.string (packB rows)) ∧ Below w.heap.size w w' := by
 have H0 := HA.start w
 have hrl : rs.length = rows.length := by rw [← hrs, rws, List.length_map]
 have hrn : rows.length ≤ 1000000000 := by omega
 refine (callsIn_wide (n := 9)).1 (callsIn_of_wp_marks (F := Fence.wide) Tryz.func48 rfl trivial ?_)
 refine wpIn_wide.2 ?_
 refine wp_seq ?_
 refine wl_region ?_
 refine wl_make (c := #[.pointer (some ⟨q, 0, none⟩)]) H0 25 (by kernel_rfl) (by kernel_rfl) ?_
 intro q1 w2 (h3 : HA (bs w) [(q1, 25, #[.pointer (some ⟨q, 0, none⟩)])] w2)
 refine zwv (.string ({ data := #[] })) ?_
 refine wl_nil ?_
 refine then_at (F := ⟨(pt q :: pt q1 :: .string ({ data := #[] }) :: List.replicate 35 un).toArray, []⟩) (by kernel_rfl) ?_
 refine wp_seq ?_
 refine wl_region ?_
 refine wl_make (c := #[.pointer none, .slice none 0 0]) h3 147 (by kernel_rfl) (by kernel_rfl) ?_
 intro q4 w5 (h6 : HA (bs w) [(q4, 147, #[.pointer none, .slice none 0 0]), (q1, 25, #[.pointer (some ⟨q, 0, none⟩)])] w5)
 refine wl_nil ?_
 refine then_at (F := ⟨(pt q :: pt q1 :: .string ({ data := #[] }) :: pt q4 :: List.replicate 34 un).toArray, []⟩) (by kernel_rfl) ?_
 refine wp_seq ?_
 refine wp_seq ?_
 refine wl_region ?_
 refine zwx (.pointer (some ⟨q, 0, none⟩)) (run_load1 (fun w => Tryz.isAgg25 w) (by kernel_rfl) (((h6.get 1 rfl).cell 0).trans rfl)) ?_
 refine zwv (.pointer (some ⟨q, 0, none⟩)) ?_
 refine zwv (.pointer (some ⟨q, 1, none⟩)) ?_
 refine zwx (.map (some r)) (run_load1 (fun w => Tryz.isAgg71 w) (by kernel_rfl) (((hq.keep h6.old.old).cell 1).trans rfl)) ?_
 refine wl_callx (by kernel_rfl) enter97 #[.map (some r)] (by kernel_rfl) (keysR_any r w5) ?_
 rintro _ w7 ⟨rfl, hkw⟩
 refine ⟨_, rfl, ?_⟩
 subst hkw
 have h8 := h6.make 71 #[.map (some r)]
 generalize hkb : w5.heap.size = kb at h8 ⊢
 generalize World.alloc w5 _ = w9 at h8 ⊢
 refine wl_callx (by kernel_rfl) enter58 #[.func (.func 132) #[] #[.pointer (some ⟨kb, 0, none⟩)]] (by kernel_rfl) (sortedR_any hK hns hct ((h8.old.old.block _ (lt_of_block hm)).trans hm) (h8.get 0 rfl)) ?_
 rintro _ w10 ⟨vN, rfl, hrow, hbs⟩
 refine ⟨_, rfl, ?_⟩
 obtain ⟨LN, hN, hO⟩ := h8.owned hbs hrow
 rw [hrl] at hN
 obtain ⟨pN, cN, rfl⟩ := hN.form
 rw [hrs, kys_enc] at hN
 have hcN : rows.length ≤ cN := by
  rcases hN.2 with ⟨e, h0, _⟩ | ⟨g, cap, cur, e, _, k1, _⟩
  ·omega
  ·cases e; exact k1
 have h11 : HA (bs w) (LN ++ [(kb, 71, #[.map (some r)]), (q4, 147, #[.pointer none, .slice none 0 0]), (q1, 25, #[.pointer (some ⟨q, 0, none⟩)])]) w10 := hO
 refine wl_callx (by kernel_rfl) enter96 #[.slice pN rows.length cN, iN .i64 64] (by kernel_rfl) (chunk_any h11) ?_
 rintro _ w12 ⟨b2, b3, rfl, hck⟩
 refine ⟨_, rfl, ?_⟩
 have h13 : HA (bs w) ((b3, 3, #[iN .i64 64]) :: (b2, 39, #[.slice pN rows.length cN]) :: (LN ++ [(kb, 71, #[.map (some r)]), (q4, 147, #[.pointer none, .slice none 0 0]), (q1, 25, #[.pointer (some ⟨q, 0, none⟩)])])) w12 := hck
 refine wl_nil ?_
 refine then_at (F := ⟨(pt q :: pt q1 :: .string ({ data := #[] }) :: pt q4 :: un :: un :: un :: un :: pt q :: pt q :: .pointer (some ⟨q, 1, none⟩) :: .map (some r) :: .func (.func 132) #[] #[pt kb] :: .slice pN rows.length cN :: .func (.func 131) #[] #[pt b2, pt b3] :: List.replicate 23 un).toArray, []⟩) (by kernel_rfl) ?_
 generalize hbb : q4 = bb at h13 ⊢
 clear hbb
 generalize hqq : q1 = qs at h13 ⊢
 clear hqq
 have h14 : HA (bs w) ((bb, 147, #[.pointer none, .slice none 0 0]) :: ([] ++ ((b3, 3, #[iN .i64 64]) :: (b2, 39, #[.slice pN rows.length cN]) :: (LN ++ [(kb, 71, #[.map (some r)]), (qs, 25, #[pt q])])))) w12 := h13.perm (perm_p _ _ LN _ _ _)
 obtain ⟨LF, hLF⟩ : ∃ LF, LF = ((b3, 3, #[iN .i64 64]) :: (b2, 39, #[.slice pN rows.length cN]) :: (LN ++ [(kb, 71, #[.map (some r)]), (qs, 25, #[pt q])])) := ⟨_, rfl⟩
 rw [← hLF] at h14
 have hm2 : (b2, 39, #[.slice pN rows.length cN]) ∈ LF := by rw [hLF]; simp
 have hm3 : (b3, 3, #[iN .i64 64]) ∈ LF := by rw [hLF]; simp
 have hm1 : (qs, 25, #[pt q]) ∈ LF := by rw [hLF]; simp
 have hmN : ∀ y ∈ LN, y ∈ LF := fun y hy => by rw [hLF]; simp [hy]
 clear hLF
 refine wp_block ?_
 refine wp_rangeM (α := Nat) (gf := 131) (rb := #[]) (lb := #[pt b2, pt b3]) (by kernel_rfl) enter131 (chunk_seq (h14.blk (b2, 39, #[.slice pN rows.length cN]) (List.mem_cons_of_mem _ (List.mem_append_right _ hm2))) (h14.blk (b3, 3, #[iN .i64 64]) (List.mem_cons_of_mem _ (List.mem_append_right _ hm3))) hrn hcN) (fun h k => KpL.trans h k) (fun W l o o' _ hl hc _ => KpL.obj W l o o' hl hc) (fun _ => rfl) (fun pre W => PkI w bb LF (packK rows pre) W) (fun _ _ => False) (PkI.own h14.old.old.size _) own_false (⟨_, _, _, .inl rfl, RowB.nil, fun _ => rfl, h14⟩) (fun x => ⟨(pt q :: pt qs :: .string ({ data := #[] }) :: pt bb :: .slice (pN.map (·.add (64 * x))) (min 64 (rows.length - 64 * x)) (min 64 (rows.length - 64 * x)) :: un :: un :: un :: pt q :: pt q :: .pointer (some ⟨q, 1, none⟩) :: .map (some r) :: .func (.func 132) #[] #[pt kb] :: .slice pN rows.length cN :: .func (.func 131) #[] #[pt b2, pt b3] :: .slice (pN.map (·.add (64 * x))) (min 64 (rows.length - 64 * x)) (min 64 (rows.length - 64 * x)) :: List.replicate 22 un).toArray, []⟩) ?_ ?_ ?_ ?_
 ·intro l x W K hK
  dsimp only [encC]; gi_wp2
  exact hK
 ·rintro D l lr pre x W hD hl hDl hd hlr ⟨p0, v0, Lr0, hp0, hR0, _, hH0⟩ ⟨m, hpm, hxn⟩
  obtain ⟨rfl, rfl⟩ := range_snoc hpm
  clear hpm
  have hH := hH0.marks (Nat.le_trans h14.old.old.size hD) (Nat.le_trans h14.old.old.size hl) hDl hd hlr
  rw [← List.range_succ]
  have hnl : ¬ LetsOut (rndM D l lr (KpL [(b2, 39, #[.slice pN rows.length cN]), (b3, 3, #[iN .i64 64])]) (fun pre W => PkI w bb LF (packK rows pre) W) (fun _ _ => False) (List.range (x + 1)) W) := nl_rndM
  generalize hQ : rndM D l lr (KpL [(b2, 39, #[.slice pN rows.length cN]), (b3, 3, #[iN .i64 64])]) (fun pre W => PkI w bb LF (packK rows pre) W) (fun _ _ => False) (List.range (x + 1)) W = QQ at hnl ⊢
  have hKx : ∀ (M : ML) (A : BL) W1, HA ⟨w, M⟩ (A ++ LF) W1 → KeysAt W1 pN (kys rows) := fun M A W1 h1 => Row.keys (by rw [kys_len]; exact hN) (fun y hy => h1.blk y (by simp [hmN y hy]))
  have hpl := packK_snoc rows x
  have hpc := packK_le rows (x + 1) (by omega)
  rw [hpl, List.length_append, frameB_len] at hpc
  have hbl : (bodyB (pieceR (ordR rows) x) []).length ≤ 1000000000 := by omega
  have hpn := piece_len (ordR rows) x
  rw [ordR_len] at hpn
  refine wpIn_block ?_
  refine wpIn_seq ?_
  refine wi_region (by repeat first | exact hnl | refine nl_then ?_ | refine nl_block ?_) (by kernel_rfl) ?_
  refine wl_make (c := #[.slice none 0 0, .slice none 0 0]) hH 100 (by kernel_rfl) (by kernel_rfl) ?_
  intro q15 w16 (h17 : HA ⟨w, [(D, .df), (l, .lp lr)]⟩ ((q15, 100, #[.slice none 0 0, .slice none 0 0]) :: (bb, 147, #[p0, v0]) :: (Lr0 ++ LF)) w16)
  refine wl_nil ?_
  refine then_atI (F := ⟨(pt q :: pt qs :: .string ({ data := #[] }) :: pt bb :: .slice (pN.map (·.add (64 * x))) (min 64 (rows.length - 64 * x)) (min 64 (rows.length - 64 * x)) :: pt q15 :: un :: un :: pt q :: pt q :: .pointer (some ⟨q, 1, none⟩) :: .map (some r) :: .func (.func 132) #[] #[pt kb] :: .slice pN rows.length cN :: .func (.func 131) #[] #[pt b2, pt b3] :: .slice (pN.map (·.add (64 * x))) (min 64 (rows.length - 64 * x)) (min 64 (rows.length - 64 * x)) :: List.replicate 22 un).toArray, []⟩) (by kernel_rfl) ?_
  refine wpIn_seq ?_
  refine wpIn_seq ?_
  have h18 := h17
  clear h17
  generalize q15 = qc at h18 ⊢
  refine wi_region (by repeat first | exact hnl | refine nl_then ?_ | refine nl_block ?_) (by kernel_rfl) ?_
  refine zwv (.slice (pN.map (·.add (64 * x))) (min 64 (rows.length - 64 * x)) (min 64 (rows.length - 64 * x))) ?_
  refine zwv (iN .i64 (min 64 (rows.length - 64 * x))) ?_
  refine zwv (iN .i64 0) ?_
  refine wl_nil ?_
  refine then_atI (F := ⟨(pt q :: pt qs :: .string ({ data := #[] }) :: pt bb :: .slice (pN.map (·.add (64 * x))) (min 64 (rows.length - 64 * x)) (min 64 (rows.length - 64 * x)) :: pt qc :: un :: un :: pt q :: pt q :: .pointer (some ⟨q, 1, none⟩) :: .map (some r) :: .func (.func 132) #[] #[pt kb] :: .slice pN rows.length cN :: .func (.func 131) #[] #[pt b2, pt b3] :: .slice (pN.map (·.add (64 * x))) (min 64 (rows.length - 64 * x)) (min 64 (rows.length - 64 * x)) :: .slice (pN.map (·.add (64 * x))) (min 64 (rows.length - 64 * x)) (min 64 (rows.length - 64 * x)) :: iN .i64 (min 64 (rows.length - 64 * x)) :: iN .i64 0 :: List.replicate 19 un).toArray, []⟩) (by kernel_rfl) ?_
  refine wpIn_block ?_
  refine wpIn_count (fun k A w' => ∃ u19 : Nat → Value, A = ⟨(pt q :: pt qs :: .string ({ data := #[] }) :: pt bb :: .slice (pN.map (·.add (64 * x))) (min 64 (rows.length - 64 * x)) (min 64 (rows.length - 64 * x)) :: pt qc :: un :: u19 7 :: pt q :: pt q :: .pointer (some ⟨q, 1, none⟩) :: .map (some r) :: .func (.func 132) #[] #[pt kb] :: .slice pN rows.length cN :: .func (.func 131) #[] #[pt b2, pt b3] :: .slice (pN.map (·.add (64 * x))) (min 64 (rows.length - 64 * x)) (min 64 (rows.length - 64 * x)) :: .slice (pN.map (·.add (64 * x))) (min 64 (rows.length - 64 * x)) (min 64 (rows.length - 64 * x)) :: iN .i64 (min 64 (rows.length - 64 * x)) :: iN .i64 k :: u19 19 :: u19 20 :: u19 21 :: u19 22 :: u19 23 :: u19 24 :: u19 25 :: u19 26 :: u19 27 :: u19 28 :: u19 29 :: u19 30 :: u19 31 :: u19 32 :: u19 33 :: List.replicate 4 un).toArray, []⟩ ∧ ∃ pp cp Lp, Row 64 2 (.slice pp k cp) k (rcl ((pieceR (ordR rows) x).take k)) Lp ∧ HA ⟨w, [(D, .df), (l, .lp lr)]⟩ ((qc, 100, #[.slice pp k cp, .slice none 0 0]) :: (bb, 147, #[p0, v0]) :: (Lp ++ (Lr0 ++ LF))) w') (min 64 (rows.length - 64 * x)) ?_ ?_ ?_
  ·exact ⟨fun ii => (([(7, undef), (19, undef), (20, undef), (21, undef), (22, undef), (23, undef), (24, undef), (25, undef), (26, undef), (27, undef), (28, undef), (29, undef), (30, undef), (31, undef), (32, undef), (33, undef)] : List (Nat × Value)).find? (·.1 == ii)).elim undef (·.2), by kernel_rfl, none, 0, [], Row.nil 64 2, h18⟩
  ·rintro k hk _ w20 ⟨u19, rfl, pp, cp, Lp, hR, hL⟩
   have hKW := hKx _ ((qc, 100, #[.slice pp k cp, .slice none 0 0]) :: (bb, 147, #[p0, v0]) :: (Lp ++ Lr0)) _ (by simpa using hL)
   obtain ⟨ky, hky⟩ : ∃ ky, (kys rows)[64 * x + k]? = some ky := ⟨_, List.getElem?_eq_getElem (by rw [kys_len]; omega)⟩
   obtain ⟨pa, hpa, hcell⟩ := hKW _ _ hky
   have hky2 : (kys (rws rs))[64 * x + k]? = some ky := by rw [hrs]; exact hky
   obtain ⟨A, f, B, hAB, hfk, hfA, hord⟩ := key_row hK hky2
   rw [hrs] at hord
   have hpk : (pieceR (ordR rows) x)[k]? = some f.r := by rw [piece_get _ _ _ (by omega)]; exact hord
   refine wpIn_seq ?_
   refine wi_region (by repeat first | exact hnl | refine nl_then ?_ | refine nl_block ?_) (by kernel_rfl) ?_
   refine zwx (.bool true) (run_lss (k := .i64) (a := k) (b := min 64 (rows.length - 64 * x)) (by kernel_rfl) (by kernel_rfl) true (decide_eq_true (by omega))) ?_
   refine wl_nil ?_
   refine then_atI (F := ⟨(pt q :: pt qs :: .string ({ data := #[] }) :: pt bb :: .slice (pN.map (·.add (64 * x))) (min 64 (rows.length - 64 * x)) (min 64 (rows.length - 64 * x)) :: pt qc :: un :: u19 7 :: pt q :: pt q :: .pointer (some ⟨q, 1, none⟩) :: .map (some r) :: .func (.func 132) #[] #[pt kb] :: .slice pN rows.length cN :: .func (.func 131) #[] #[pt b2, pt b3] :: .slice (pN.map (·.add (64 * x))) (min 64 (rows.length - 64 * x)) (min 64 (rows.length - 64 * x)) :: .slice (pN.map (·.add (64 * x))) (min 64 (rows.length - 64 * x)) (min 64 (rows.length - 64 * x)) :: iN .i64 (min 64 (rows.length - 64 * x)) :: iN .i64 k :: .bool true :: u19 20 :: u19 21 :: u19 22 :: u19 23 :: u19 24 :: u19 25 :: u19 26 :: u19 27 :: u19 28 :: u19 29 :: u19 30 :: u19 31 :: u19 32 :: u19 33 :: List.replicate 4 un).toArray, []⟩) (by kernel_rfl) ?_
   refine wpIn_seq ?_
   refine wpIn_cond_true (by kernel_rfl) ?_
   refine wpIn_skip ?_
   refine then_atI (F := ⟨(pt q :: pt qs :: .string ({ data := #[] }) :: pt bb :: .slice (pN.map (·.add (64 * x))) (min 64 (rows.length - 64 * x)) (min 64 (rows.length - 64 * x)) :: pt qc :: un :: u19 7 :: pt q :: pt q :: .pointer (some ⟨q, 1, none⟩) :: .map (some r) :: .func (.func 132) #[] #[pt kb] :: .slice pN rows.length cN :: .func (.func 131) #[] #[pt b2, pt b3] :: .slice (pN.map (·.add (64 * x))) (min 64 (rows.length - 64 * x)) (min 64 (rows.length - 64 * x)) :: .slice (pN.map (·.add (64 * x))) (min 64 (rows.length - 64 * x)) (min 64 (rows.length - 64 * x)) :: iN .i64 (min 64 (rows.length - 64 * x)) :: iN .i64 k :: .bool true :: u19 20 :: u19 21 :: u19 22 :: u19 23 :: u19 24 :: u19 25 :: u19 26 :: u19 27 :: u19 28 :: u19 29 :: u19 30 :: u19 31 :: u19 32 :: u19 33 :: List.replicate 4 un).toArray, []⟩) (by kernel_rfl) ?_
   refine wpIn_seq ?_
   refine wpIn_block ?_
   refine wpIn_seq ?_
   refine wi_region (by repeat first | exact hnl | refine nl_then ?_ | refine nl_block ?_) (by kernel_rfl) ?_
   refine wl_val (.pointer (some ((pa.add (64 * x)).add k))) (by kernel_rfl) (run_addr39 (o := pN.map (·.add (64 * x))) (a := pa.add (64 * x)) (n := min 64 (rows.length - 64 * x)) (m := min 64 (rows.length - 64 * x)) (i := k) (by rw [hpa]; rfl) (by kernel_rfl) (by kernel_rfl) hk) ?_
   refine zwx (.string ky) (run_load_at (b := (pa.add (64 * x)).add k) (fun w => Tryz.isAgg9 w) (by kernel_rfl) (by rw [add_two]; exact hcell)) ?_
   refine zwv (.string ky) ?_
   refine wl_nil ?_
   refine then_atI (F := ⟨(pt q :: pt qs :: .string ({ data := #[] }) :: pt bb :: .slice (pN.map (·.add (64 * x))) (min 64 (rows.length - 64 * x)) (min 64 (rows.length - 64 * x)) :: pt qc :: un :: .string ky :: pt q :: pt q :: .pointer (some ⟨q, 1, none⟩) :: .map (some r) :: .func (.func 132) #[] #[pt kb] :: .slice pN rows.length cN :: .func (.func 131) #[] #[pt b2, pt b3] :: .slice (pN.map (·.add (64 * x))) (min 64 (rows.length - 64 * x)) (min 64 (rows.length - 64 * x)) :: .slice (pN.map (·.add (64 * x))) (min 64 (rows.length - 64 * x)) (min 64 (rows.length - 64 * x)) :: iN .i64 (min 64 (rows.length - 64 * x)) :: iN .i64 k :: .bool true :: .pointer (some ((pa.add (64 * x)).add k)) :: .string ky :: u19 22 :: u19 23 :: u19 24 :: u19 25 :: u19 26 :: u19 27 :: u19 28 :: u19 29 :: u19 30 :: u19 31 :: u19 32 :: u19 33 :: List.replicate 4 un).toArray, []⟩) (by kernel_rfl) ?_
   refine wi_region_wx (by repeat first | exact hnl | refine nl_then ?_ | refine nl_block ?_) (by kernel_rfl) (HA ⟨w, [(D, .df), (l, .lp lr)]⟩ ((qc, 100, #[.slice pp k cp, .slice none 0 0]) :: LF)) (fun AQ w' => ∃ (q24 : Nat) (pp3 : Option Addr) (cp3 : Nat) (Lp3 : BL), AQ = ⟨(pt q :: pt qs :: .string ({ data := #[] }) :: pt bb :: .slice (pN.map (·.add (64 * x))) (min 64 (rows.length - 64 * x)) (min 64 (rows.length - 64 * x)) :: pt qc :: un :: .string ky :: pt q :: pt q :: .pointer (some ⟨q, 1, none⟩) :: .map (some r) :: .func (.func 132) #[] #[pt kb] :: .slice pN rows.length cN :: .func (.func 131) #[] #[pt b2, pt b3] :: .slice (pN.map (·.add (64 * x))) (min 64 (rows.length - 64 * x)) (min 64 (rows.length - 64 * x)) :: .slice (pN.map (·.add (64 * x))) (min 64 (rows.length - 64 * x)) (min 64 (rows.length - 64 * x)) :: iN .i64 (min 64 (rows.length - 64 * x)) :: iN .i64 k :: .bool true :: .pointer (some ((pa.add (64 * x)).add k)) :: .string ky :: pt qc :: .slice pp k cp :: pt q :: pt q :: .pointer (some ⟨q, 1, none⟩) :: .map (some r) :: .string ky :: rwv f.r :: .slice (some ⟨q24, 0, none⟩) 1 1 :: .slice pp3 (k + 1) cp3 :: pt qc :: u19 33 :: List.replicate 4 un).toArray, []⟩ ∧ Row 64 2 (.slice pp3 (k + 1) cp3) (k + 1) (rcl ((pieceR (ordR rows) x).take k) ++ [.string f.r.k, .string f.r.v]) Lp3 ∧ HA ⟨w, [(D, .df), (l, .lp lr)]⟩ ((qc, 100, #[.slice pp3 (k + 1) cp3, .slice none 0 0]) :: (bb, 147, #[p0, v0]) :: (Lp3 ++ (Lr0 ++ LF))) w') 12 (by kernel_rfl) (by kernel_rfl) (by kernel_rfl) (by kernel_rfl) (by kernel_rfl) (hL.drew.sub (List.Sublist.cons_cons _ (List.Sublist.cons _ (List.sublist_append_of_sublist_right (List.sublist_append_right _ _))))) ?_ ?_
   ·have h21 := hL.drew
    refine wx_pure (i := 0) (.pointer (some ⟨qc, 0, none⟩)) rfl rfl (by kernel_rfl) (by kernel_rfl) (fun _ => (by kernel_rfl)) ?_
    refine wx_val (i := 1) (.slice pp k cp) rfl rfl (by kernel_rfl) (by kernel_rfl) (fun w' h' => run_load1 (fun w => Tryz.isAgg30 w) (by kernel_rfl) (((h'.get 0 rfl).cell 0).trans rfl)) ?_
    refine wx_val (i := 2) (.pointer (some ⟨q, 0, none⟩)) rfl rfl (by kernel_rfl) (by kernel_rfl) (fun w' h' => run_load1 (fun w => Tryz.isAgg25 w) (by kernel_rfl) ((h'.blk (qs, 25, #[pt q]) (by simp [hm1])).cell 0)) ?_
    refine wx_pure (i := 3) (.pointer (some ⟨q, 0, none⟩)) rfl rfl (by kernel_rfl) (by kernel_rfl) (fun _ => (by kernel_rfl)) ?_
    refine wx_pure (i := 4) (.pointer (some ⟨q, 1, none⟩)) rfl rfl (by kernel_rfl) (by kernel_rfl) (fun _ => (by kernel_rfl)) ?_
    refine wx_val (i := 5) (.map (some r)) rfl rfl (by kernel_rfl) (by kernel_rfl) (fun w' h' => run_load1 (fun w => Tryz.isAgg71 w) (by kernel_rfl) (((hq.keep h'.old.old).cell 1).trans rfl)) ?_
    refine wx_pure (i := 6) (.string ky) rfl rfl (by kernel_rfl) (by kernel_rfl) (fun _ => (by kernel_rfl)) ?_
    refine wx_val (i := 7) (rwv f.r) rfl rfl (by kernel_rfl) (by kernel_rfl) (fun w' h' => run_lookR1 (A := A) (f := f) (B := B) (nx := nx) (by rw [← hAB]; exact ((h'.old.old.block _ (lt_of_block hm)).trans hm)) hfk hfA (by kernel_rfl) (by kernel_rfl)) ?_
    refine wx_one 8 (by kernel_rfl) ?_
    refine ex_mksS (c := #[.string f.r.k, .string f.r.v]) rfl (by kernel_rfl) h21 64 1 1 (fun _ => (by kernel_rfl)) ?_
    intro q24 w22 h23
    refine ⟨(HA.sub h23 (List.Sublist.cons _ (List.Sublist.cons_cons _ (List.Sublist.cons _ (List.sublist_append_of_sublist_right (List.sublist_append_right _ _)))))), ?_⟩
    refine wx_one 9 (by kernel_rfl) ?_
    refine ex_doS rfl (by kernel_rfl) h23 fun w25 h26 => ?_
    obtain ⟨v3, wa3, Lp3, hrun3, hR3, ha3⟩ := row_more (t := 30) hR (h26.perm (List.Perm.cons _ (perm_mv [(qc, 100, #[.slice pp k cp, .slice none 0 0]), (bb, 147, #[p0, v0])] Lp (Lr0 ++ LF)))) (by decide) (.agg #[.string { data := #[] }, .string { data := #[] }]) 32 30 Tryz.underlying30 info64 rfl (by decide) rfl (by kernel_rfl) (by unfold maxLen; omega) (by omega)
    obtain ⟨pp3, cp3, hvn3⟩ := hR3.form
    subst hvn3
    have h27 : HA ⟨w, [(D, .df), (l, .lp lr)]⟩ ((qc, 100, #[.slice pp k cp, .slice none 0 0]) :: (bb, 147, #[p0, v0]) :: (Lp3 ++ (Lr0 ++ LF))) wa3 := ha3.perm (perm_mv [(qc, 100, #[.slice pp k cp, .slice none 0 0]), (bb, 147, #[p0, v0])] Lp3 (Lr0 ++ LF)).symm
    refine ⟨_, _, run_app_ops (by kernel_rfl) (by kernel_rfl) hrun3, (HA.sub h27 (List.Sublist.cons_cons _ (List.Sublist.cons _ (List.sublist_append_of_sublist_right (List.sublist_append_right _ _))))), ?_⟩
    refine wx_pure (i := 10) (.pointer (some ⟨qc, 0, none⟩)) rfl rfl (by kernel_rfl) (by kernel_rfl) (fun _ => (by kernel_rfl)) ?_
    refine wx_one 11 (by kernel_rfl) ?_
    refine ex_skip rfl (by kernel_rfl) (by kernel_rfl) h27 fun w28 h29 => ⟨_, run_storev (v := .slice pp3 (k + 1) cp3) (fun w => Tryz.sizeOf30 w) (by kernel_rfl) (by kernel_rfl) (by kernel_rfl) (by rw [(h29.get 0 rfl).cell]; rfl) ((h29.get 0 rfl).free _ (by show 0 < 2; decide)), _, h29.put 0 rfl 0 _, ?_⟩
    have h30 : HA ⟨w, [(D, .df), (l, .lp lr)]⟩ ((qc, 100, #[.slice pp3 (k + 1) cp3, .slice none 0 0]) :: (bb, 147, #[p0, v0]) :: (Lp3 ++ (Lr0 ++ LF))) _ := h29.put 0 rfl 0 (.slice pp3 (k + 1) cp3)
    refine wx_end fun w31 hbx _ => ?_
    have h32 := HA.keep _ _ h30 hbx
    exact ⟨q24, pp3, cp3, Lp3, by kernel_rfl, hR3, h32⟩
   ·rintro _ w33 ⟨q24, pp3, cp3, Lp3, rfl, hR3, h34⟩
    refine block_normal ?_
    refine then_atI (F := ⟨(pt q :: pt qs :: .string ({ data := #[] }) :: pt bb :: .slice (pN.map (·.add (64 * x))) (min 64 (rows.length - 64 * x)) (min 64 (rows.length - 64 * x)) :: pt qc :: un :: .string ky :: pt q :: pt q :: .pointer (some ⟨q, 1, none⟩) :: .map (some r) :: .func (.func 132) #[] #[pt kb] :: .slice pN rows.length cN :: .func (.func 131) #[] #[pt b2, pt b3] :: .slice (pN.map (·.add (64 * x))) (min 64 (rows.length - 64 * x)) (min 64 (rows.length - 64 * x)) :: .slice (pN.map (·.add (64 * x))) (min 64 (rows.length - 64 * x)) (min 64 (rows.length - 64 * x)) :: iN .i64 (min 64 (rows.length - 64 * x)) :: iN .i64 k :: .bool true :: .pointer (some ((pa.add (64 * x)).add k)) :: .string ky :: pt qc :: .slice pp k cp :: pt q :: pt q :: .pointer (some ⟨q, 1, none⟩) :: .map (some r) :: .string ky :: rwv f.r :: .slice (some ⟨q24, 0, none⟩) 1 1 :: .slice pp3 (k + 1) cp3 :: pt qc :: u19 33 :: List.replicate 4 un).toArray, []⟩) (by kernel_rfl) ?_
    refine wi_region (by repeat first | exact hnl | refine nl_then ?_ | refine nl_block ?_) (by kernel_rfl) ?_
    refine zwx (iN .i64 (k + 1)) (run_add (k := .i64) (a := k) (b := 1) (by kernel_rfl) (by kernel_rfl) (by first | omega | (simp only [top]; omega))) ?_
    refine zwv (iN .i64 (k + 1)) ?_
    refine wl_nil ?_
    exact then_I ⟨fun ii => (([(7, .string ky), (19, .bool true), (20, .pointer (some ((pa.add (64 * x)).add k))), (21, .string ky), (22, .pointer (some ⟨qc, 0, none⟩)), (23, .slice pp k cp), (24, .pointer (some ⟨q, 0, none⟩)), (25, .pointer (some ⟨q, 0, none⟩)), (26, .pointer (some ⟨q, 1, none⟩)), (27, .map (some r)), (28, .string ky), (29, rwv f.r), (30, .slice (some ⟨q24, 0, none⟩) 1 1), (31, .slice pp3 (k + 1) cp3), (32, .pointer (some ⟨qc, 0, none⟩)), (33, iN .i64 (k + 1))] : List (Nat × Value)).find? (·.1 == ii)).elim undef (·.2), by kernel_rfl, pp3, cp3, Lp3, by rw [take_snoc hpk, rcl_snoc]; exact hR3, h34⟩
  ·rintro _ w35 ⟨u19, rfl, pp, cp, Lp, hR, hL⟩
   refine wpIn_seq ?_
   refine wi_region (by repeat first | exact hnl | refine nl_then ?_ | refine nl_block ?_) (by kernel_rfl) ?_
   refine zwx (.bool false) (run_lss (k := .i64) (a := min 64 (rows.length - 64 * x)) (b := min 64 (rows.length - 64 * x)) (by kernel_rfl) (by kernel_rfl) false (decide_eq_false (by omega))) ?_
   refine wl_nil ?_
   refine then_atI (F := ⟨(pt q :: pt qs :: .string ({ data := #[] }) :: pt bb :: .slice (pN.map (·.add (64 * x))) (min 64 (rows.length - 64 * x)) (min 64 (rows.length - 64 * x)) :: pt qc :: un :: u19 7 :: pt q :: pt q :: .pointer (some ⟨q, 1, none⟩) :: .map (some r) :: .func (.func 132) #[] #[pt kb] :: .slice pN rows.length cN :: .func (.func 131) #[] #[pt b2, pt b3] :: .slice (pN.map (·.add (64 * x))) (min 64 (rows.length - 64 * x)) (min 64 (rows.length - 64 * x)) :: .slice (pN.map (·.add (64 * x))) (min 64 (rows.length - 64 * x)) (min 64 (rows.length - 64 * x)) :: iN .i64 (min 64 (rows.length - 64 * x)) :: iN .i64 (min 64 (rows.length - 64 * x)) :: .bool false :: u19 20 :: u19 21 :: u19 22 :: u19 23 :: u19 24 :: u19 25 :: u19 26 :: u19 27 :: u19 28 :: u19 29 :: u19 30 :: u19 31 :: u19 32 :: u19 33 :: List.replicate 4 un).toArray, []⟩) (by kernel_rfl) ?_
   refine wpIn_seq ?_
   refine wpIn_cond_false (by kernel_rfl) ?_
   refine wpIn_exit ?_
   repeat first | refine then_exit ?_ | refine block_exit ?_ | refine block_exit_ne (by decide) ?_
   refine then_atI (F := ⟨(pt q :: pt qs :: .string ({ data := #[] }) :: pt bb :: .slice (pN.map (·.add (64 * x))) (min 64 (rows.length - 64 * x)) (min 64 (rows.length - 64 * x)) :: pt qc :: un :: u19 7 :: pt q :: pt q :: .pointer (some ⟨q, 1, none⟩) :: .map (some r) :: .func (.func 132) #[] #[pt kb] :: .slice pN rows.length cN :: .func (.func 131) #[] #[pt b2, pt b3] :: .slice (pN.map (·.add (64 * x))) (min 64 (rows.length - 64 * x)) (min 64 (rows.length - 64 * x)) :: .slice (pN.map (·.add (64 * x))) (min 64 (rows.length - 64 * x)) (min 64 (rows.length - 64 * x)) :: iN .i64 (min 64 (rows.length - 64 * x)) :: iN .i64 (min 64 (rows.length - 64 * x)) :: .bool false :: u19 20 :: u19 21 :: u19 22 :: u19 23 :: u19 24 :: u19 25 :: u19 26 :: u19 27 :: u19 28 :: u19 29 :: u19 30 :: u19 31 :: u19 32 :: u19 33 :: List.replicate 4 un).toArray, []⟩) (by kernel_rfl) ?_
   refine wi_region (by repeat first | exact hnl | refine nl_then ?_ | refine nl_block ?_) (by kernel_rfl) ?_
   refine wl_load hL 0 rfl (by kernel_rfl) (by kernel_rfl) Tryz.underlying100 rfl (by kernel_rfl) ?_
   have hRf : Row 64 2 (.slice pp (pieceR (ordR rows) x).length cp) (pieceR (ordR rows) x).length (rcl (pieceR (ordR rows) x)) Lp := by have h9 := hR; rw [← hpn, List.take_length] at h9; exact h9
   refine wl_call (v := .string (⟨(frameB (pieceR (ordR rows) x) []).toArray⟩)) hL (by kernel_rfl) enter55 #[.agg (#[.slice pp (min 64 (rows.length - 64 * x)) cp, .slice none 0 0])] (by kernel_rfl) (by have h9 := frame_any (pc := cp) (dc := 0) (do_ := none) (ds := []) (Row.rows hRf (fun y hy => hL.blk y (by simp [hy]))) (fun i y hi => by simp at hi) (by omega) (by simp) hbl; rw [hpn] at h9; exact h9) ?_
   intro w36 h37
   have h38 := h37.perm (perm_w (qc, 100, #[.slice pp (min 64 (rows.length - 64 * x)) cp, .slice none 0 0]) (bb, 147, #[p0, v0]) Lp Lr0 LF)
   refine wl_callx (by kernel_rfl) enter98 #[.pointer (some ⟨bb, 0, none⟩), .string (⟨(frameB (pieceR (ordR rows) x) []).toArray⟩)] (by kernel_rfl) (bwrite_any hp0 hR0 h38 ⟨(frameB (pieceR (ordR rows) x) []).toArray⟩ (by show _ + ((frameB (pieceR (ordR rows) x) []).toArray).size ≤ _; rw [List.size_toArray, frameB_len]; omega)) ?_
   rintro _ w39 ⟨rfl, v1, Lr1, hR1, hw1⟩
   refine ⟨_, rfl, ?_⟩
   have h40 : HA ⟨w, [(D, .df), (l, .lp lr)]⟩ ((bb, 147, #[pt bb, v1]) :: (Lr1 ++ LF)) w39 := hw1.sub (List.Sublist.cons_cons _ (List.Sublist.append_left (List.Sublist.cons _ (List.sublist_append_right _ _)) _))
   refine wl_nil ?_
   refine block_normal ?_
   rw [← hQ]
   exact ⟨h40.old.maps _ (List.mem_cons_self ..), h40.old.maps _ (List.mem_cons_of_mem _ (List.mem_cons_self ..)), .inl ⟨rfl, fun _ y hy => h40.blk y (List.mem_cons_of_mem _ (List.mem_append_right _ (by rcases List.mem_cons.1 hy with rfl | hy; exact hm2; obtain rfl := List.mem_singleton.1 hy; exact hm3))), ⟨_, v1, Lr1, .inr rfl, by rw [hpl]; rw [bl_mk] at hR1; exact hR1, fun e => absurd (congrArg List.length e) (by rw [hpl, List.length_append, frameB_len, List.length_nil]; omega), HA.noM h40⟩⟩⟩
 ·rintro D xs W hD rfl ⟨p0, v0, Lr0, hp0, hR0, hne0, hH0⟩ hdf
  have hm9 := hH0.mark (Nat.le_trans h14.old.old.size hD) hdf
  refine block_normal ?_
  refine then_at (F := ⟨(pt q :: pt qs :: .string ({ data := #[] }) :: pt bb :: un :: un :: un :: un :: pt q :: pt q :: .pointer (some ⟨q, 1, none⟩) :: .map (some r) :: .func (.func 132) #[] #[pt kb] :: .slice pN rows.length cN :: .func (.func 131) #[] #[pt b2, pt b3] :: List.replicate 23 un).toArray, (mkd D)⟩) (by kernel_rfl) ?_
  refine then_at (F := ⟨(pt q :: pt qs :: .string ({ data := #[] }) :: pt bb :: un :: un :: un :: un :: pt q :: pt q :: .pointer (some ⟨q, 1, none⟩) :: .map (some r) :: .func (.func 132) #[] #[pt kb] :: .slice pN rows.length cN :: .func (.func 131) #[] #[pt b2, pt b3] :: List.replicate 23 un).toArray, (mkd D)⟩) (by kernel_rfl) ?_
  refine wp_seq ?_
  refine wl_region ?_
  refine wl_callx (by kernel_rfl) enter99 #[.pointer (some ⟨bb, 0, none⟩)] (by kernel_rfl) (bstr_any hR0 (by show (packL rows).length ≤ _; omega) hne0 hm9) ?_
  rintro _ w41 ⟨rfl, hstr⟩
  refine ⟨_, rfl, ?_⟩
  refine zwv (.string (packB rows)) ?_
  refine wl_nil ?_
  refine then_at (F := ⟨(pt q :: pt qs :: .string (packB rows) :: pt bb :: un :: un :: un :: un :: pt q :: pt q :: .pointer (some ⟨q, 1, none⟩) :: .map (some r) :: .func (.func 132) #[] #[pt kb] :: .slice pN rows.length cN :: .func (.func 131) #[] #[pt b2, pt b3] :: un :: un :: un :: un :: un :: un :: un :: un :: un :: un :: un :: un :: un :: un :: un :: un :: un :: un :: un :: un :: un :: un :: .string (packB rows) :: List.replicate 0 un).toArray, (mkd D)⟩) (by kernel_rfl) ?_
  refine wp_ret ?_
  repeat first | refine then_ret ?_ | refine block_ret ?_
  exact leaves_df hstr (fun w9 h9 => ⟨.string (packB rows), (by kernel_rfl), rfl, h9.old.old⟩)
 ·intro D pre W hD h9 hdf
  exact h9.elim
end Go.Proofs.YtckmlaempffpjaaGreat
