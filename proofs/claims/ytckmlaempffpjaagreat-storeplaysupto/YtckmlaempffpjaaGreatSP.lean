/-
 A range over a function whose body is walked with what is held; the keys by pieces.
-/
import Derived.Test.YtckmlaempffpjaaGreatGSL
namespace Go.Proofs.YtckmlaempffpjaaGreat
open Go.RowKit Go.Shelf Go.Proofs.Tryz
def noDef (o : Oper) : Bool := match o.op with | .defer _ => false | _ => true
theorem noDef_ne {o : Oper} (h : noDef o = true) : ∀ c, o.op ≠ .defer c := fun c e => by simp [noDef, e] at h
theorem upon_in {P : Program} {o : Oper} {a : Act} {next next' : Act → World → Prop} {Q : Exit → Act → World → Prop} {r n : Nat} (hn : ∀ a w, next a w → next' a w) {x : Result Next} (h : o.upon P a next Q x) : o.uponIn (Fence.wide.inRound r) n P a next' Q x := by
 match x, h with
 | .ok (.value v) w', h => exact hn _ _ h
 | .ok .skip w', h => exact hn _ _ h
 | .ok (.defer d) w', h => exact hn _ _ h
 | .ok (.enter f args) w', h =>
  refine ⟨fun e => absurd e (by simp [Fence.wide]), (callsIn_wide.2 h).mono ?_⟩;intro e w2 h2
  cases e with
  | returned v => exact hn _ _ h2
  | panicked c => exact h2
  | outgrown => exact h2
 | .ok (.row row args) w', h =>
  exact ⟨fun e => absurd e (by simp [Fence.wide]), fun c cs _ => let ⟨v, w2, h2, hs⟩ := h c cs; ⟨v, w2, hn _ _ h2, stepsIn_wide.2 hs⟩⟩
 | .halt (.panic v) w', h => exact h
theorem list_in {P : Program} {ops : Array Oper} {Q : Exit → Act → World → Prop} {r n : Nat} (hQ : ¬ LetsOut Q) : ∀ (l : List Oper) (a : Act) (w : World), l.all noDef = true → wpList P ops Q l a w → wpListIn (Fence.wide.inRound r) n P ops Q l a w
 | [], _, _, _, h => h
 | o :: l, a, w, hd, h => by
  rw [List.all_cons, Bool.and_eq_true] at hd
  unfold wpList at h
  unfold wpListIn
  split at h
  ·rename_i hw
   rw [if_pos hw]
   rcases h with h | h
   ·refine ⟨fun _ _ => trivial, ?_⟩;rw [show o.semAt (Fence.wide.inRound r).round a.eval = execOp a.eval o from Oper.semAt_some r _ _ (noDef_ne hd.1)];exact upon_in (list_in hQ l · · hd.2) h
   ·exact absurd h.2 hQ
  ·rename_i hw
   rw [if_neg hw];exact ⟨fun _ _ => trivial, list_in hQ l _ _ hd.2 h⟩
theorem any_in {P : Program} {ops : Array Oper} {Q : Exit → Act → World → Prop} {r n : Nat} {md : Region.Mode} (hQ : ¬ LetsOut Q) (hd : ops.toList.all noDef = true) : ∀ (fuel : Nat) (listed : Array Bool) (a : Act) (w : World), wpAny P md ops Q fuel listed a w → wpAnyIn (Fence.wide.inRound r) n P md ops Q fuel listed a w
 | 0, _, _, _, h => h
 | fuel + 1, listed, a, w, h => by
  refine ⟨h.1, fun i hi => ?_⟩;have h2 := h.2 i hi
  unfold wpOp at h2
  unfold wpOpIn
  cases ho : ops[i]? with
  | none => rw [ho] at h2; exact any_in hQ hd fuel _ _ _ h2
  | some o =>
   rw [ho] at h2;have hdo : noDef o = true := List.all_eq_true.1 hd o (by rw [Array.mem_toList_iff]; exact Array.mem_of_getElem? ho)
   simp only at h2 ⊢
   split at h2
   ·rename_i hw
    rw [if_pos hw]
    rcases h2 with h2 | h2
    ·refine ⟨fun _ _ => trivial, ?_⟩;rw [show o.semAt (Fence.wide.inRound r).round a.eval = execOp a.eval o from Oper.semAt_some r _ _ (noDef_ne hdo)];exact upon_in (any_in hQ hd fuel _ · ·) h2
    ·exact absurd h2.2 hQ
   ·rename_i hw
    rw [if_neg hw];exact ⟨fun _ _ => trivial, any_in hQ hd fuel _ _ _ h2⟩
section
variable {P : Program} {ops : Array Oper} {Q : Exit → Act → World → Prop} {a : Act} {w : World} {r n : Nat}
theorem wi_region {id : Nat} (hQ : ¬ LetsOut Q) (hd : ops.toList.all noDef = true) (h : WL P ops Q ops.toList a w) : (Code.region id ops false).wpIn (Fence.wide.inRound r) n P Q a w :=
 wpIn_region_list (list_in hQ _ _ _ hd h.out)
theorem wi_region_wx {id : Nat} (hQ : ¬ LetsOut Q) (hdf : ops.toList.all noDef = true) (S : World → Prop) (J : Act → World → Prop) (m : Nat) (hm : P.follows .mixedOrders = true) (hc : sureB .any ops = true) (hd : distB ops = true) (hsel : Region.noSelect ops = true) (hn : ops.size = m) (hS : S w.drew)
  (h : WXS P ops J m S [] [] a w.drew) (hk : ∀ a w, J a w → Q .normal a w) : (Code.region id ops true).wpIn (Fence.wide.inRound r) n P Q a w := by
 refine wpIn_region_any hm (any_in hQ hdf _ _ _ _ (wx_sim hc hd hsel hk m S [] [] a w.drew h.go ?_ (fun j o _ h => by simp at h) (fun j h => by simp at h) _ _ a w.drew (Nat.le_trans (List.countP_le_length) (by simp)) (by simp) (fun j hj h => ?_) (fun j o _ h => ?_) ⟨rfl, rfl, fun _ _ => rfl⟩ hS (Below.refl _ _) (fun j o _ h => by simp at h)))
 ·subst hn
  unfold cntL
  rw [List.countP_eq_length.2 (by simp)]
  simp
 ·simp [hj] at h
 ·rw [Array.getD_eq_getD_getElem?, Array.getElem?_replicate] at h
  split at h <;> simp at h
theorem then_atI {y : Code} {a F : Act} {N : Fence} (h : a = F) (hq : y.wpIn N n P Q F w) : Exit.then (y.wpIn N n P Q) Q .normal a w := h ▸ hq
theorem wpIn_count {N : Fence} {c : Code} (I : Nat → Act → World → Prop) (m : Nat) {a : Act} {w : World} (h0 : I 0 a w)
  (round : ∀ i, i < m → ∀ a w, I i a w → c.wpIn N n P (Exit.then (I (i + 1)) Q) a w) (last : ∀ a w, I m a w → c.wpIn N n P (Exit.then (fun _ _ => False) Q) a w) : (Code.loop c).wpIn N n P Q a w := by
 have key : ∀ k i a w, i + k = m → I i a w → Code.roundsIn N n P c Q (k + 1) a w := by
  intro k
  induction k with
  | zero =>
   intro i a w hi hI;rw [Nat.add_zero] at hi;subst hi;exact last a w hI
  | succ k ih =>
   intro i a w hi hI;rw [roundsIn_succ];exact Code.wpIn_mono (fun e a w he => by cases e <;> first | exact ih (i + 1) a w (by omega) he | exact he) (round i (by omega) a w hI)
 exact wpIn_loop_rounds (m + 1) (key m 0 a w (by omega) h0)
end
structure WN (P : Program) (ops : Array Oper) (Q : Exit → Act → World → Prop) (l : List Oper) (a : Act) (w : World) : Prop where
 out : wpListIn Fence.wide 8 P ops Q l a w
section
variable {P : Program} {ops : Array Oper} {Q : Exit → Act → World → Prop} {a : Act} {w : World} {rest : List Oper} {dst : Option Tmp} {ty : TypeId} {pos : String} {aft : Array Edge} {gd : Option (Nat × Bool)}
theorem wn_region {id : Nat} (h : WN P ops Q ops.toList a w) : (Code.region id ops false).wp P Q a w := (wpIn_wide (n := 8)).1 (wpIn_region_list h.out)
theorem wn_nil (h : Q .normal a w) : WN P ops Q [] a w := ⟨h⟩
theorem wn_val {o : Oper} (v : Value) (hw : Region.wanted o (yielded ops a.tmps) = true) (hr : (execOp a.eval o).run P w = .ok (.value v) w) (h : WN P ops Q rest (a.put o.dst v) w) : WN P ops Q (o :: rest) a w := by
 refine ⟨?_⟩
 unfold wpListIn
 rw [if_pos hw];refine ⟨fun _ _ => trivial, ?_⟩;rw [show o.semAt Fence.wide.round a.eval = execOp a.eval o from rfl, hr];exact h.out
theorem wn_yield {l : Nat} {x : Operand} {xs : Array Operand} {ats : Array TypeId} {args : Array Value} {fn : FuncId} {tmps : Array Value} {asg body : Code} (hw : Region.wanted ⟨dst, .call { callee := .value x, args := xs, argTypes := ats }, ty, pos, aft, gd⟩ (yielded ops a.tmps) = true)
  (hx : a.eval x = .func (.yield l) #[] #[]) (ha : #[] ++ xs.map a.eval ++ #[] = args) (hy : (Instr.yield l args).run P w = .ok (.round l fn tmps asg body) w)
  (hR : RoundIn Fence.wide 7 P l fn tmps asg body w (fun e w' => ∃ v, e = .returned v ∧ WN P ops Q rest (a.put dst v) w')) : WN P ops Q (⟨dst, .call { callee := .value x, args := xs, argTypes := ats }, ty, pos, aft, gd⟩ :: rest) a w := by
 refine ⟨?_⟩
 unfold wpListIn
 rw [if_pos hw];refine ⟨fun _ _ => trivial, ?_⟩;have hr : (execOp a.eval ⟨dst, .call { callee := .value x, args := xs, argTypes := ats }, ty, pos, aft, gd⟩).run P w = .ok (.round l fn tmps asg body) w := by
  subst ha
  simp only [execOp, resolve, hx, invoke, Deferred.ofValue, Sem.run_bind, Sem.run_pure, Result.andThen_ok]
  exact hy
 rw [show Oper.semAt Fence.wide.round a.eval ⟨dst, .call { callee := .value x, args := xs, argTypes := ats }, ty, pos, aft, gd⟩ = execOp a.eval ⟨dst, .call { callee := .value x, args := xs, argTypes := ats }, ty, pos, aft, gd⟩ from rfl, hr];refine ⟨fun e => absurd e (by simp [Fence.wide]), hR.mono ?_⟩;rintro e w' ⟨v, rfl, h⟩;exact h.out
end
def rndM {α : Type} (D l : Nat) (r : Loop) (Kp : World → World → Prop) (I Ix : List α → World → Prop) (xs : List α) (W : World) (e : Exit) (_ : Act) (W' : World) : Prop :=
 W'.heap[D]? = some (.deferred (some [])) ∧ W'.heap[l]? = some (.loop r) ∧ ((e = .normal ∧ Kp W W' ∧ I xs W') ∨ (e = .ret ∧ Ix xs W'))
theorem nl_rndM {α : Type} {D l : Nat} {r : Loop} {Kp : World → World → Prop} {I Ix : List α → World → Prop} {xs : List α} {W : World} : ¬ LetsOut (rndM D l r Kp I Ix xs W) := fun ⟨_, _, h⟩ => by
 rcases h.2.2 with h | h
 ·cases h.1
 ·cases h.1
theorem wp_rangeM {α : Type} {P : Program} {g : Operand} {ps : Array Tmp} {asg body : Code} {Q : Exit → Act → World → Prop} {a : Act} {w : World} {gf : Nat} {rb lb : Array Value}
  (hg : a.eval g = .func (.func gf) rb lb) (eg : ∀ args w, (callFunc gf args).run P w = .ok (.enter gf args) w) {encs : α → Array Value} {Kp : World → World → Prop} {S V : List α → Prop}
  (hseq : SeqR P gf rb lb encs Kp S V w) (hKt : ∀ {A B C : World}, Kp A B → Kp B C → Kp A C)
  (hKb : ∀ (W : World) (l : Nat) (o o' : Obj), w.heap.size ≤ l → W.heap[l]? = some o → o.isCells = false → o.isWalk = false → Kp W (W.putObj l o')) (hps : ∀ x, (encs x).size = ps.size)
  (I Ix : List α → World → Prop) (hI : OwnFrom w.heap.size I) (hIx : OwnFrom w.heap.size Ix) (h0 : I [] w) (a1 : α → Act)
  (hasg : ∀ (l : Nat) (x : α) (W : World) (K : Act → World → Prop), K (a1 x) W → asg.wpIn (Fence.wide.inRound l) 7 P (Exit.then K (fun _ _ _ => False)) { tmps := (ps.zip (encs x)).foldl (fun t (p, v) => t.setIfInBounds p v) a.tmps, defers := [] } W)
  (hbody : ∀ (D l : Nat) (r : Loop) (pre : List α) (x : α) (W : World), w.heap.size ≤ D → w.heap.size ≤ l → D ≠ l → W.heap[D]? = some (.deferred (some [])) → W.heap[l]? = some (.loop r) → I pre W → V (pre ++ [x]) → body.wpIn (Fence.wide.inRound l) 7 P (rndM D l r Kp I Ix (pre ++ [x]) W) (a1 x) W)
  (hdone : ∀ (D : Nat) (xs : List α) (W : World), w.heap.size ≤ D → S xs → I xs W → W.heap[D]? = some (.deferred (some [])) → Q .normal { a with defers := { target := .collected D, args := #[] } :: a.defers } W)
  (hstop : ∀ (D : Nat) (pre : List α) (W : World), w.heap.size ≤ D → Ix pre W → W.heap[D]? = some (.deferred (some [])) → Code.ret.wpIn Fence.wide 9 P Q { a with defers := { target := .collected D, args := #[] } :: a.defers } W) :
  (Code.rangeFunc g ps asg body).wp P Q a w := by
 refine (wpIn_wide (n := 9)).1 (wpIn_rangeFunc fun fn hfn => ?_);obtain ⟨W1, hW1⟩ : ∃ W1, W1 = (w.alloc (.deferred (some []))).alloc (.loop (rcd fn a ps asg body w.heap.size .ready none)) := ⟨_, rfl⟩;have hm1 : W1.heap[w.heap.size]? = some (.deferred (some [])) := by
  rw [hW1];exact (Below.heap_alloc _ _ _ (by simp)).trans (World.alloc_heap_new w _)
 have hr1 : W1.heap[w.heap.size + 1]? = some (.loop (rcd fn a ps asg body w.heap.size .ready none)) := by
  have e := World.alloc_heap_new (w.alloc (.deferred (some []))) (.loop (rcd fn a ps asg body w.heap.size .ready none));rw [World.size_alloc] at e;rw [hW1];exact e
 have hb1 : Below w.heap.size w W1 := by
  rw [hW1];exact ((Below.refl _ w).alloc (Nat.le_refl _) _).alloc (by simp) _
 have hI1 : I [] W1 := by rw [hW1]; exact hI.alloc _ (hI.alloc _ h0)
 have hsz : W1.heap.size = w.heap.size + 2 := by rw [hW1]; simp
 refine ⟨w.heap.size + 1, [{ target := .collected w.heap.size, args := #[] }], W1, { target := .fn (.func gf) lb, args := rb ++ #[.func (.yield (w.heap.size + 1)) #[] #[]] }, W1, gf, rb ++ #[.func (.yield (w.heap.size + 1)) #[] #[]] ++ lb, W1, ?_, ?_, fun _ _ => trivial, ?_, fun _ => by decide, ?_⟩
 ·rw [hW1]; exact run_enterLoop_outer fn a.tmps ps asg body
 ·simp only [resolve, hg]
  simp [go_sem]
 ·simp [invoke, go_sem, eg]
 ·have far : ∀ {A : World} {row : Option Nat}, (∀ r, row = some r → W1.heap.size ≤ r ∧ ∃ o : Obj, A.heap[r]? = some o ∧ o.isWalk = true) → ∀ r, row = some r → w.heap.size ≤ r ∧ ∃ o : Obj, A.heap[r]? = some o ∧ o.isCells = false := fun h r e => by
   obtain ⟨h1, o, h2, h3⟩ := h r e;exact ⟨by omega, o, h2, Obj.not_cells_of_walk h3⟩
  refine (hseq (w.heap.size + 1) (fun pre W => I pre W ∧ W.heap[w.heap.size + 1]? = some (.loop (rcd fn a ps asg body w.heap.size .ready none)) ∧ W.heap[w.heap.size]? = some (.deferred (some [])))
   (fun pre W => Ix pre W ∧ W.heap[w.heap.size + 1]? = some (.loop (rcd fn a ps asg body w.heap.size .done (some .ret))) ∧ W.heap[w.heap.size]? = some (.deferred (some [])))
   W1 hb1 (fun s A B row hs hgr hr => ⟨hI s A B row hs.1 hgr (far hr), (grownBy_keeps hgr (fun r e => (hr r e).2) hs.2.1 rfl).trans hs.2.1, (grownBy_keeps hgr (fun r e => (hr r e).2) hs.2.2 rfl).trans hs.2.2⟩)
   (fun s A B row hs hgr hr => ⟨hIx s A B row hs.1 hgr (far hr), (grownBy_keeps hgr (fun r e => (hr r e).2) hs.2.1 rfl).trans hs.2.1, (grownBy_keeps hgr (fun r e => (hr r e).2) hs.2.2 rfl).trans hs.2.2⟩) ?_ ⟨hI1, hr1, hm1⟩).mono ?_
  ·rintro pre x W ⟨hi, hl, hk⟩ hlen;have hlt := (Array.getElem?_eq_some_iff.1 hl).1;refine ⟨fn, _, asg, body, run_yield (P := P) (args := encs x) hl (hps x), roundIn_of_wpIn hfn (hasg _ x W _ ⟨_, run_beginRound hl rfl, ?_⟩)⟩;obtain ⟨W2, hW2⟩ : ∃ W2, W2 = W.putObj (w.heap.size + 1) (.loop (rcd fn a ps asg body w.heap.size .busy none)) := ⟨_, rfl⟩;have hl2 : W2.heap[w.heap.size + 1]? = some (.loop (rcd fn a ps asg body w.heap.size .busy none)) := by rw [hW2]; exact World.putObj_heap_same hlt
   have hk2 : W2.heap[w.heap.size]? = some (.deferred (some [])) := by rw [hW2]; exact (World.putObj_heap_other (by omega)).trans hk
   have hp2 : Kp W W2 := by rw [hW2]; exact hKb _ _ _ _ (by omega) hl rfl rfl
   have hi2 : I pre W2 := by rw [hW2]; exact hI.putObj _ hi (by omega) hl rfl
   have hB := hbody w.heap.size (w.heap.size + 1) _ pre x W2 (Nat.le_refl _) (by omega) (by omega) hk2 hl2 hi2 hlen;rw [hW2] at hB;refine wpIn_mono hB ?_;rw [← hW2];rintro e a3 W3 ⟨hk3, hl3, h⟩;have hlt3 := (Array.getElem?_eq_some_iff.1 hl3).1
   rcases h with ⟨rfl, hkp, hi3⟩ | ⟨rfl, hi3⟩
   ·refine ⟨_, _, run_endRound (P := P) none hl3, .inl ⟨rfl, ⟨hI.putObj _ hi3 (by omega) hl3 rfl, World.putObj_heap_same hlt3, (World.putObj_heap_other (by omega)).trans hk3⟩, hKt (hKt hp2 hkp) (hKb _ _ _ _ (by omega) hl3 rfl rfl)⟩⟩
   ·exact ⟨_, _, run_endRound (P := P) (some .ret) hl3, .inr ⟨rfl, hIx.putObj _ hi3 (by omega) hl3 rfl, World.putObj_heap_same hlt3, (World.putObj_heap_other (by omega)).trans hk3⟩⟩
  ·rintro e W2 ⟨⟨v, rfl⟩, ⟨xs, hS, hi, hl, hk⟩ | ⟨pre, hi, hl, hk⟩⟩
   ·exact ⟨none, _, run_endLoop (P := P) hl (by simp [rcd]), hdone _ xs _ (Nat.le_refl _) hS (hI.putObj _ hi (by omega) hl rfl) ((World.putObj_heap_other (by omega)).trans hk)⟩
   ·exact ⟨some .ret, _, run_endLoop (P := P) hl (by simp [rcd]), hstop _ pre _ (Nat.le_refl _) (hIx.putObj _ hi (by omega) hl rfl) ((World.putObj_heap_other (by omega)).trans hk)⟩
theorem HA.marks {w0 W : World} {L : BL} {D l : Nat} {r : Loop} (h : HA (bs w0) L W) (hD : w0.heap.size ≤ D) (hl : w0.heap.size ≤ l) (hne : D ≠ l) (hd : W.heap[D]? = some (.deferred (some []))) (hr : W.heap[l]? = some (.loop r)) : HA ⟨w0, [(D, .df), (l, .lp r)]⟩ L W :=
 ⟨⟨h.old.old, fun m hm => by
  rcases List.mem_cons.1 hm with rfl | hm
  ·exact hd
  ·obtain rfl := List.mem_singleton.1 hm; exact hr, fun m hm => by
  rcases List.mem_cons.1 hm with rfl | hm
  ·exact hD
  ·obtain rfl := List.mem_singleton.1 hm; exact hl, by simpa using hne⟩, h.blk, h.own, h.nd⟩
def KpL (Lk : BL) (A B : World) : Prop := (∀ x ∈ Lk, Blk A x.1 x.2.1 x.2.2) → ∀ x ∈ Lk, Blk B x.1 x.2.1 x.2.2
theorem KpL.trans {Lk : BL} {A B C : World} (h : KpL Lk A B) (k : KpL Lk B C) : KpL Lk A C := fun x => k (h x)
theorem KpL.obj {Lk : BL} (W : World) (l : Nat) (o o' : Obj) (hl : W.heap[l]? = some o) (hc : o.isCells = false) : KpL Lk W (W.putObj l o') := fun h x hx => by
 refine (h x hx).at' (World.putObj_heap_other (fun e => ?_));obtain ⟨f, hf, _⟩ := h x hx;rw [e, hl] at hf
 cases hf
 cases hc
end Go.Proofs.YtckmlaempffpjaaGreat
