/-
  A range over a function that is bound to something, walked; the mark that such a loop leaves.
-/
import Derived.Test.YtckmlaempffpjaaGreatS3
import Derived.RangeFuncWrites
import Derived.RangeFuncLeaves
import Derived.RangeFuncCalls
import Derived.Shelf.RegionOpen
namespace Go.Proofs.YtckmlaempffpjaaGreat
open Go.RowKit Go.Shelf

/-- what an iterator does that is called with what it is bound to, and with yield -/
def SeqR {α : Type} (P : Program) (gf : Nat) (rb lb : Array Value) (encs : α → Array Value) (Kp : World → World → Prop) (S V : List α → Prop) (w : World) : Prop :=
  ∀ (l : Nat) (J Jx : List α → World → Prop) (W : World), Below w.heap.size w W → AbidesFrom W.heap.size J → AbidesFrom W.heap.size Jx →
    (∀ pre x W1, J pre W1 → V (pre ++ [x]) → YieldAt Fence.wide 7 P l (encs x) W1 fun e W' => (e = .returned (.bool true) ∧ J (pre ++ [x]) W' ∧ Kp W1 W') ∨ (e = .returned (.bool false) ∧ Jx (pre ++ [x]) W')) →
    J [] W → CallsIn Fence.wide 8 P gf (rb ++ #[.func (.yield l) #[] #[]] ++ lb) W fun e W' => (∃ v, e = .returned v) ∧ ((∃ xs, S xs ∧ J xs W') ∨ ∃ pre, Jx pre W')
def rcd (fn : FuncId) (a : Act) (ps : Array Tmp) (asg body : Code) (B : Nat) (s : LoopState) (p : Option Code) : Loop := { state := s, pending := p, fn := fn, tmps := a.tmps, params := ps, assign := asg, body := body, defers := B }
/-- how a round of the body may end -/
def rndP {α : Type} (B : Nat) (Kp : World → World → Prop) (I Ix : List α → World → Prop) (xs : List α) (W : World) (e : Exit) (_ : Act) (W' : World) : Prop :=
  KeepsFrom B W W' ∧ ((e = .normal ∧ Kp W W' ∧ I xs W') ∨ (e = .ret ∧ Ix xs W'))
theorem wp_rangeR {α : Type} {P : Program} {g : Operand} {ps : Array Tmp} {asg body : Code} {Q : Exit → Act → World → Prop} {a : Act} {w : World} {gf : Nat} {rb lb : Array Value}
    (hg : a.eval g = .func (.func gf) rb lb) (eg : ∀ args w, (callFunc gf args).run P w = .ok (.enter gf args) w) {encs : α → Array Value} {Kp : World → World → Prop} {S V : List α → Prop}
    (hseq : SeqR P gf rb lb encs Kp S V w) (hKt : ∀ {A B C : World}, Kp A B → Kp B C → Kp A C)
    (hKb : ∀ (W : World) (l : Nat) (o o' : Obj), w.heap.size ≤ l → W.heap[l]? = some o → o.isCells = false → o.isWalk = false → Kp W (W.putObj l o')) (hps : ∀ x, (encs x).size = ps.size)
    (I Ix : List α → World → Prop) (hI : OwnFrom w.heap.size I) (hIx : OwnFrom w.heap.size Ix) (h0 : I [] w) (a1 : α → Act)
    (hasg : ∀ (l : Nat) (x : α) (W : World) (K : Act → World → Prop), K (a1 x) W → asg.wpIn (Fence.wide.inRound l) 7 P (Exit.then K (fun _ _ _ => False)) { tmps := (ps.zip (encs x)).foldl (fun t (p, v) => t.setIfInBounds p v) a.tmps, defers := [] } W)
    (hbody : ∀ (l : Nat) (pre : List α) (x : α) (W : World), I pre W → V (pre ++ [x]) → body.wpIn (Fence.wide.inRound l) 7 P (rndP w.heap.size Kp I Ix (pre ++ [x]) W) (a1 x) W)
    (hdone : ∀ (D : Nat) (xs : List α) (W : World), w.heap.size ≤ D → S xs → I xs W → W.heap[D]? = some (.deferred (some [])) → Q .normal { a with defers := { target := .collected D, args := #[] } :: a.defers } W)
    (hstop : ∀ (D : Nat) (pre : List α) (W : World), w.heap.size ≤ D → Ix pre W → W.heap[D]? = some (.deferred (some [])) → Code.ret.wpIn Fence.wide 9 P Q { a with defers := { target := .collected D, args := #[] } :: a.defers } W) :
    (Code.rangeFunc g ps asg body).wp P Q a w := by
  refine (wpIn_wide (n := 9)).1 (wpIn_rangeFunc fun fn hfn => ?_)
  obtain ⟨W1, hW1⟩ : ∃ W1, W1 = (w.alloc (.deferred (some []))).alloc (.loop (rcd fn a ps asg body w.heap.size .ready none)) := ⟨_, rfl⟩
  have hm1 : W1.heap[w.heap.size]? = some (.deferred (some [])) := by
    rw [hW1]
    exact (Below.heap_alloc _ _ _ (by simp)).trans (World.alloc_heap_new w _)
  have hr1 : W1.heap[w.heap.size + 1]? = some (.loop (rcd fn a ps asg body w.heap.size .ready none)) := by
    have e := World.alloc_heap_new (w.alloc (.deferred (some []))) (.loop (rcd fn a ps asg body w.heap.size .ready none))
    rw [World.size_alloc] at e
    rw [hW1]
    exact e
  have hb1 : Below w.heap.size w W1 := by
    rw [hW1]
    exact ((Below.refl _ w).alloc (Nat.le_refl _) _).alloc (by simp) _
  have hI1 : I [] W1 := by rw [hW1]; exact hI.alloc _ (hI.alloc _ h0)
  have hsz : W1.heap.size = w.heap.size + 2 := by rw [hW1]; simp
  refine ⟨w.heap.size + 1, [{ target := .collected w.heap.size, args := #[] }], W1, { target := .fn (.func gf) lb, args := rb ++ #[.func (.yield (w.heap.size + 1)) #[] #[]] }, W1, gf, rb ++ #[.func (.yield (w.heap.size + 1)) #[] #[]] ++ lb, W1, ?_, ?_, fun _ _ => trivial, ?_, fun _ => by decide, ?_⟩
  · rw [hW1]; exact run_enterLoop_outer fn a.tmps ps asg body
  · simp only [resolve, hg]
    simp [go_sem]
  · simp [invoke, go_sem, eg]
  · have far : ∀ {A : World} {row : Option Nat}, (∀ r, row = some r → W1.heap.size ≤ r ∧ ∃ o : Obj, A.heap[r]? = some o ∧ o.isWalk = true) → ∀ r, row = some r → w.heap.size ≤ r ∧ ∃ o : Obj, A.heap[r]? = some o ∧ o.isCells = false := fun h r e => by
      obtain ⟨h1, o, h2, h3⟩ := h r e
      exact ⟨by omega, o, h2, Obj.not_cells_of_walk h3⟩
    refine (hseq (w.heap.size + 1) (fun pre W => I pre W ∧ W.heap[w.heap.size + 1]? = some (.loop (rcd fn a ps asg body w.heap.size .ready none)) ∧ W.heap[w.heap.size]? = some (.deferred (some [])))
      (fun pre W => Ix pre W ∧ W.heap[w.heap.size + 1]? = some (.loop (rcd fn a ps asg body w.heap.size .done (some .ret))) ∧ W.heap[w.heap.size]? = some (.deferred (some [])))
      W1 hb1 (fun s A B row hs hgr hr => ⟨hI s A B row hs.1 hgr (far hr), (grownBy_keeps hgr (fun r e => (hr r e).2) hs.2.1 rfl).trans hs.2.1, (grownBy_keeps hgr (fun r e => (hr r e).2) hs.2.2 rfl).trans hs.2.2⟩)
      (fun s A B row hs hgr hr => ⟨hIx s A B row hs.1 hgr (far hr), (grownBy_keeps hgr (fun r e => (hr r e).2) hs.2.1 rfl).trans hs.2.1, (grownBy_keeps hgr (fun r e => (hr r e).2) hs.2.2 rfl).trans hs.2.2⟩) ?_ ⟨hI1, hr1, hm1⟩).mono ?_
    · rintro pre x W ⟨hi, hl, hk⟩ hlen
      have hlt := (Array.getElem?_eq_some_iff.1 hl).1
      refine ⟨fn, _, asg, body, run_yield (P := P) (args := encs x) hl (hps x), roundIn_of_wpIn hfn (hasg _ x W _ ⟨_, run_beginRound hl rfl, ?_⟩)⟩
      obtain ⟨W2, hW2⟩ : ∃ W2, W2 = W.putObj (w.heap.size + 1) (.loop (rcd fn a ps asg body w.heap.size .busy none)) := ⟨_, rfl⟩
      have hl2 : W2.heap[w.heap.size + 1]? = some (.loop (rcd fn a ps asg body w.heap.size .busy none)) := by rw [hW2]; exact World.putObj_heap_same hlt
      have hk2 : W2.heap[w.heap.size]? = some (.deferred (some [])) := by rw [hW2]; exact (World.putObj_heap_other (by omega)).trans hk
      have hp2 : Kp W W2 := by rw [hW2]; exact hKb _ _ _ _ (by omega) hl rfl rfl
      have hi2 : I pre W2 := by rw [hW2]; exact hI.putObj _ hi (by omega) hl rfl
      have hB := hbody (w.heap.size + 1) pre x W2 hi2 hlen
      rw [hW2] at hB
      refine wpIn_mono hB ?_
      rw [← hW2]
      rintro e a3 W3 ⟨hkf, h⟩
      have hl3 := hkf.same _ _ (by omega) hl2 rfl
      have hk3 := hkf.same _ _ (Nat.le_refl _) hk2 rfl
      have hlt3 := (Array.getElem?_eq_some_iff.1 hl3).1
      rcases h with ⟨rfl, hkp, hi3⟩ | ⟨rfl, hi3⟩
      · refine ⟨_, _, run_endRound (P := P) none hl3, .inl ⟨rfl, ⟨hI.putObj _ hi3 (by omega) hl3 rfl, World.putObj_heap_same hlt3, (World.putObj_heap_other (by omega)).trans hk3⟩, hKt (hKt hp2 hkp) (hKb _ _ _ _ (by omega) hl3 rfl rfl)⟩⟩
      · exact ⟨_, _, run_endRound (P := P) (some .ret) hl3, .inr ⟨rfl, hIx.putObj _ hi3 (by omega) hl3 rfl, World.putObj_heap_same hlt3, (World.putObj_heap_other (by omega)).trans hk3⟩⟩
    · rintro e W2 ⟨⟨v, rfl⟩, ⟨xs, hS, hi, hl, hk⟩ | ⟨pre, hi, hl, hk⟩⟩
      · exact ⟨none, _, run_endLoop (P := P) hl (by simp [rcd]), hdone _ xs _ (Nat.le_refl _) hS (hI.putObj _ hi (by omega) hl rfl) ((World.putObj_heap_other (by omega)).trans hk)⟩
      · exact ⟨some .ret, _, run_endLoop (P := P) hl (by simp [rcd]), hstop _ pre _ (Nat.le_refl _) (hIx.putObj _ hi (by omega) hl rfl) ((World.putObj_heap_other (by omega)).trans hk)⟩
/-! the mark -/
def mkd (D : Nat) : List Deferred := [{ target := .collected D, args := #[] }]
theorem HA.grownO {w0 A B : World} {L : BL} {row : Option Nat} (h : HA (bs w0) L A) (hg : A.grownBy B row) (hr : ∀ r, row = some r → w0.heap.size ≤ r ∧ ∃ o : Obj, A.heap[r]? = some o ∧ o.isCells = false) : HA (bs w0) L B := by
  refine ⟨⟨h.old.old.grown hg h.old.old.size (fun k hk => (hr k hk).1), fun _ hm => (by cases hm), fun _ hm => (by cases hm), List.nodup_nil⟩, fun x hx => ?_, h.own, h.nd⟩
  have hb := h.blk x hx
  refine hb.at' (hg.block x.1 hb.lt (fun e => ?_))
  obtain ⟨_, o, ho, hc⟩ := hr x.1 e.symm
  obtain ⟨f, hf, _⟩ := hb
  rw [hf] at ho
  cases ho
  cases hc
theorem HA.mark {w0 W : World} {L : BL} {D : Nat} (h : HA (bs w0) L W) (hD : w0.heap.size ≤ D) (hd : W.heap[D]? = some (.deferred (some []))) : HA ⟨w0, [(D, .df)]⟩ L W :=
  ⟨⟨h.old.old, fun m hm => by obtain rfl := List.mem_singleton.1 hm; exact hd, fun m hm => by obtain rfl := List.mem_singleton.1 hm; exact hD, by simp⟩, h.blk, h.own, h.nd⟩
theorem leaves_df {F : Fence} {n : Nat} {P : Program} {fn : Func} {tmps : Array Value} {R : Ending → World → Prop} {w0 w : World} {L : BL} {D : Nat} (H : HA ⟨w0, [(D, .df)]⟩ L w) (hR : ∀ w, HA (bs w0) L w → ∃ v, (results fn tmps).run P w = .ok v w ∧ R (.returned v) w) :
    LeavesInM F n P fn tmps R (mkd D) .returning w := by
  have hd : w.heap[D]? = some (.deferred (some [])) := H.old.maps _ (List.mem_cons_self ..)
  have hD : w0.heap.size ≤ D := H.old.mown (D, .df) (List.mem_cons_self ..)
  refine ⟨by simp, .inl ⟨D, _, rfl, run_takeDeferred hd, hR _ ?_⟩⟩
  exact HA.grownO (HA.noM H) (grownBy_putObj' w D _) (fun k hk => by cases hk; exact ⟨hD, _, hd, rfl⟩)
end Go.Proofs.YtckmlaempffpjaaGreat

namespace Go.Proofs.YtckmlaempffpjaaGreat
open Go.RowKit Go.Shelf
attribute [local go_sem] Oper.semAt_some

def encK (x : ByteArray) : Array Value := #[.string x]
/-- cells lie as they lay, but for two blocks -/
def KpC (q1 q2 : Nat) (A B : World) : Prop := A.heap.size ≤ B.heap.size ∧ ∀ k c t f, A.heap[k]? = some (.cells c t f) → k ≠ q1 → k ≠ q2 → B.heap[k]? = A.heap[k]?
def keysOf (ps : List Rw) (ds : List ByteArray) : List ByteArray := ps.map (·.k) ++ ds
theorem keys_take1 {ps : List Rw} {ds : List ByteArray} {k : Nat} {x : Rw} (h : ps[k]? = some x) : (keysOf ps ds).take (k + 1) = (keysOf ps ds).take k ++ [x.k] := by
  refine take_snoc ?_
  have hl := (List.getElem?_eq_some_iff.1 h).1
  rw [keysOf, List.getElem?_append_left (by simpa using hl), List.getElem?_map, h]
  rfl
theorem keys_take2 {ps : List Rw} {ds : List ByteArray} {k : Nat} {x : ByteArray} (h : ds[k]? = some x) : (keysOf ps ds).take (ps.length + k + 1) = (keysOf ps ds).take (ps.length + k) ++ [x] := by
  refine take_snoc ?_
  rw [keysOf, List.getElem?_append_right (by simp), List.length_map, Nat.add_sub_cancel_left]
  exact h
theorem cells_kept {W W' : World} {q1 q2 b t : Nat} {c : Array Value} (hB : Blk W b t c) (hk : KpC q1 q2 W W') (h1 : b ≠ q1) (h2 : b ≠ q2) : Blk W' b t c := by
  obtain ⟨f, hf, hff⟩ := hB
  exact ⟨f, (hk.2 b c t f hf h1 h2).trans hf, hff⟩
theorem cells_of {w : World} {p : Addr} {v : Value} (h : w.cell? p = some v) : ∃ c t f, w.heap[p.block]? = some (.cells c t f) := by
  unfold World.cell? at h
  cases ho : w.heap[p.block]? with
  | none => simp [ho] at h
  | some o =>
    cases o with
    | cells c t f => exact ⟨c, t, f, rfl⟩
    | _ => simp [ho] at h
theorem add_block (a : Addr) (i : Nat) : (a.add i).block = a.block := by
  unfold Addr.add
  split <;> rfl
theorem KpC.cell {q1 q2 : Nat} {A B : World} (h : KpC q1 q2 A B) {p : Addr} {v : Value} (hp : A.cell? p = some v) (h1 : p.block ≠ q1) (h2 : p.block ≠ q2) : B.cell? p = some v := by
  obtain ⟨c, t, f, hc⟩ := cells_of hp
  exact (World.cell?_of_block (w := A) (h.2 _ c t f hc h1 h2)).trans hp
/-- rows apart from two blocks -/
def apA (o : Option Addr) (q1 q2 : Nat) : Prop := ∀ a, o = some a → a.block ≠ q1 ∧ a.block ≠ q2
theorem RowsAt.kp {q1 q2 : Nat} {A B : World} {o : Option Addr} {ps : List Rw} (h : RowsAt A o ps) (hk : KpC q1 q2 A B) (ha : ps ≠ [] → apA o q1 q2) : RowsAt B o ps := fun i x hi => by
  obtain ⟨a, h1, h2, h3⟩ := h i x hi
  obtain ⟨n1, n2⟩ := ha (by rintro rfl; simp at hi) a h1
  exact ⟨a, h1, hk.cell h2 (by rw [add_block]; exact n1) (by rw [add_block]; exact n2), hk.cell h3 (by rw [add_block]; exact n1) (by rw [add_block]; exact n2)⟩
theorem KeysAt.kp {q1 q2 : Nat} {A B : World} {o : Option Addr} {ds : List ByteArray} (h : KeysAt A o ds) (hk : KpC q1 q2 A B) (ha : ds ≠ [] → apA o q1 q2) : KeysAt B o ds := fun i x hi => by
  obtain ⟨a, h1, h2⟩ := h i x hi
  obtain ⟨n1, n2⟩ := ha (by rintro rfl; simp at hi) a h1
  exact ⟨a, h1, hk.cell h2 (by rw [add_block]; exact n1) (by rw [add_block]; exact n2)⟩
theorem abides {α : Type} {B : Nat} {J : List α → World → Prop} (hJ : AbidesFrom B J) {pre : List α} {A W : World} (h : J pre A) (hb : Below A.heap.size A W) : J pre W :=
  hJ pre A W none h ⟨hb.os, hb.tape, hb.output, hb.size, fun k hk _ => hb.block k hk⟩ (fun r e => by cases e)
theorem RowsAt.ap {w : World} {o : Option Addr} {ps : List Rw} {q1 q2 : Nat} (h : RowsAt w o ps) (h1 : w.heap.size ≤ q1) (h2 : w.heap.size ≤ q2) : ps ≠ [] → apA o q1 q2 := fun hne a ha => by
  obtain ⟨x, l, rfl⟩ := List.exists_cons_of_ne_nil hne
  obtain ⟨b, e, hc, _⟩ := h 0 x rfl
  rw [ha] at e
  cases e
  obtain ⟨c, t, f, hc⟩ := cells_of hc
  rw [add_block] at hc
  have := lt_of_block hc
  omega
theorem KeysAt.ap {w : World} {o : Option Addr} {ds : List ByteArray} {q1 q2 : Nat} (h : KeysAt w o ds) (h1 : w.heap.size ≤ q1) (h2 : w.heap.size ≤ q2) : ds ≠ [] → apA o q1 q2 := fun hne a ha => by
  obtain ⟨x, l, rfl⟩ := List.exists_cons_of_ne_nil hne
  obtain ⟨b, e, hc⟩ := h 0 x rfl
  rw [ha] at e
  cases e
  obtain ⟨c, t, f, hc⟩ := cells_of hc
  rw [add_block] at hc
  have := lt_of_block hc
  omega
theorem KpC.trans {q1 q2 : Nat} {A B C : World} (h : KpC q1 q2 A B) (k : KpC q1 q2 B C) : KpC q1 q2 A C := ⟨Nat.le_trans h.1 k.1, fun i c t f hi n1 n2 => by
  have h1 := h.2 i c t f hi n1 n2
  exact (k.2 i c t f (h1.trans hi) n1 n2).trans h1⟩
theorem KpC.obj {q1 q2 : Nat} (W : World) (l : Nat) (o o' : Obj) (hl : W.heap[l]? = some o) (hc : o.isCells = false) : KpC q1 q2 W (W.putObj l o') := ⟨by simp, fun k c t f hk _ _ => World.putObj_heap_other (fun e => by
  rw [e, hl] at hk
  cases hk
  cases hc)⟩
theorem KpC.set {q1 q2 : Nat} (W : World) (q i : Nat) (v : Value) (hq : q = q1 ∨ q = q2) : KpC q1 q2 W (W.setCell ⟨q, i, none⟩ v) := ⟨by simp, fun k _ _ _ _ n1 n2 => Below.heap_setCell W ⟨q, i, none⟩ v k (by rcases hq with rfl | rfl <;> assumption)⟩
theorem keeps_set {B : Nat} (W : World) (q i : Nat) (v : Value) {t : TypeId} {c : Array Value} (h : Blk W q t c) : KeepsFrom B W (W.setCell ⟨q, i, none⟩ v) := ⟨by simp, fun k o _ hk ho => (Below.heap_setCell W ⟨q, i, none⟩ v k (fun e => by
  obtain ⟨f, hf, _⟩ := h
  rw [e, hf] at hk
  cases hk
  cases ho)).trans hk⟩
theorem own_ha {α : Type} {w0 : World} {B : Nat} (hB : w0.heap.size ≤ B) (L : List α → BL) (Pr : List α → Prop) : OwnFrom B (fun pre W => HA (bs w0) (L pre) W ∧ Pr pre) :=
  fun _ _ _ _ hs hg hr => ⟨hs.1.grownO hg (fun r e => ⟨Nat.le_trans hB (hr r e).1, (hr r e).2⟩), hs.2⟩
end Go.Proofs.YtckmlaempffpjaaGreat

namespace Go.Proofs.YtckmlaempffpjaaGreat
open Go.RowKit Go.Shelf
attribute [local go_sem] Oper.semAt_some

set_option linter.unusedVariables false in
set_option maxRecDepth 100000 in
set_option maxHeartbeats 4000000 in
theorem keys_calls {po do_ : Option Addr} {pc dc : Nat} {ps : List Rw} {ds : List ByteArray} {w : World} {ka kb B l : Nat} {J Jx : List ByteArray → World → Prop} (hJ : AbidesFrom B J) (hP : RowsAt w po ps) (hD : KeysAt w do_ ds) (hpa0 : ps ≠ [] → apA po ka kb) (hda0 : ds ≠ [] → apA do_ ka kb) (hka : ka < w.heap.size) (hkb : kb < w.heap.size) (hpl : ps.length ≤ 1000000000) (hdl : ds.length ≤ 1000000000) (hY : ∀ pre x W1, J pre W1 → (∃ n, pre ++ [x] = (keysOf ps ds).take n) → YieldAt Fence.wide 7 Tryz.prog l (encK x) W1 fun e W' => (e = .returned (.bool true) ∧ J (pre ++ [x]) W' ∧ KpC ka kb W1 W') ∨ (e = .returned (.bool false) ∧ Jx (pre ++ [x]) W')) (h0 : J [] w) :
  Calls Tryz.prog 102 #[.agg #[.slice po ps.length pc, .slice do_ ds.length dc], .func (.yield l) #[] #[]] w fun e w' => (∃ v, e = .returned v) ∧ ((∃ xs, xs = keysOf ps ds ∧ J xs w') ∨ ∃ pre, Jx pre w') := by
 have H0 := HA.start w
 go_enter Tryz.func102, Tryz.ntmps102
 refine wp_seq ?_
 refine wl_region ?_
 refine wl_make (c := #[.slice po ps.length pc, .slice do_ ds.length dc]) H0 100 (by kernel_rfl) (by kernel_rfl) ?_
 intro q1 w2 (h3 : HA (bs w) [(q1, 100, #[.slice po ps.length pc, .slice do_ ds.length dc])] w2)
 refine wl_nil ?_
 refine then_at (F := ⟨(.agg #[.slice po ps.length pc, .slice do_ ds.length dc] :: .func (.yield l) #[] #[] :: pt q1 :: List.replicate 30 un).toArray, []⟩) (by kernel_rfl) ?_
 refine wp_seq ?_
 refine wp_seq ?_
 refine wl_region ?_
 refine zwv (.pointer (some ⟨q1, 0, none⟩)) ?_
 refine zwx (.slice po ps.length pc) (run_load1 (fun w => Tryz.isAgg30 w) (by kernel_rfl) (((h3.get 0 rfl).cell 0).trans rfl)) ?_
 refine zwv (iN .i64 ps.length) ?_
 refine zwv (iN .i64 0) ?_
 refine wl_nil ?_
 refine then_at (F := ⟨(.agg #[.slice po ps.length pc, .slice do_ ds.length dc] :: .func (.yield l) #[] #[] :: pt q1 :: un :: un :: un :: un :: un :: pt q1 :: .slice po ps.length pc :: iN .i64 ps.length :: iN .i64 0 :: List.replicate 21 un).toArray, []⟩) (by kernel_rfl) ?_
 have hqb : w.heap.size ≤ q1 := h3.own _ (List.mem_cons_self ..)
 refine wp_block ?_
 refine wp_count (fun k A w' => ∃ u4 : Nat → Value, A = ⟨(.agg #[.slice po ps.length pc, .slice do_ ds.length dc] :: .func (.yield l) #[] #[] :: pt q1 :: un :: un :: u4 5 :: un :: un :: pt q1 :: .slice po ps.length pc :: iN .i64 ps.length :: iN .i64 k :: u4 12 :: u4 13 :: u4 14 :: u4 15 :: u4 16 :: u4 17 :: u4 18 :: u4 19 :: u4 20 :: List.replicate 12 un).toArray, []⟩ ∧ J ((keysOf ps ds).take (k)) w' ∧ RowsAt w' po ps ∧ KeysAt w' do_ ds ∧ Blk w' q1 100 #[.slice po ps.length pc, .slice do_ ds.length dc]) ps.length ?_ ?_ ?_
 ·exact ⟨fun ii => (([(5, undef), (12, undef), (13, undef), (14, undef), (15, undef), (16, undef), (17, undef), (18, undef), (19, undef), (20, undef)] : List (Nat × Value)).find? (·.1 == ii)).elim undef (·.2), by kernel_rfl, by rw [List.take_zero]; exact abides hJ h0 h3.old.old, hP.keep h3.old.old, hD.keep h3.old.old, h3.get 0 rfl⟩
 ·rintro k hk _ w5 ⟨u4, rfl, hJk, hPk, hDk, hBk⟩
  have hL := HA.start w5
  obtain ⟨x, hx⟩ : ∃ x, ps[k]? = some x := ⟨_, List.getElem?_eq_getElem hk⟩
  obtain ⟨pa, hpa, hpk, hpv⟩ := hPk k x hx
  refine wp_seq ?_
  refine wl_region ?_
  refine zwx (.bool true) (run_lss (k := .i64) (a := k) (b := ps.length) (by kernel_rfl) (by kernel_rfl) true (decide_eq_true (by omega))) ?_
  refine wl_nil ?_
  refine then_at (F := ⟨(.agg #[.slice po ps.length pc, .slice do_ ds.length dc] :: .func (.yield l) #[] #[] :: pt q1 :: un :: un :: u4 5 :: un :: un :: pt q1 :: .slice po ps.length pc :: iN .i64 ps.length :: iN .i64 k :: .bool true :: u4 13 :: u4 14 :: u4 15 :: u4 16 :: u4 17 :: u4 18 :: u4 19 :: u4 20 :: List.replicate 12 un).toArray, []⟩) (by kernel_rfl) ?_
  refine wp_seq ?_
  refine wp_cond_true (by kernel_rfl) ?_
  refine wp_skip ?_
  refine then_at (F := ⟨(.agg #[.slice po ps.length pc, .slice do_ ds.length dc] :: .func (.yield l) #[] #[] :: pt q1 :: un :: un :: u4 5 :: un :: un :: pt q1 :: .slice po ps.length pc :: iN .i64 ps.length :: iN .i64 k :: .bool true :: u4 13 :: u4 14 :: u4 15 :: u4 16 :: u4 17 :: u4 18 :: u4 19 :: u4 20 :: List.replicate 12 un).toArray, []⟩) (by kernel_rfl) ?_
  refine wp_seq ?_
  refine wp_block ?_
  refine wp_seq ?_
  refine wl_region ?_
  refine wl_val (.pointer (some (pa.add (k * 2)))) (by kernel_rfl) (run_addr30 (a := pa) (n := ps.length) (m := pc) (i := k) hpa (by kernel_rfl) (by kernel_rfl) hk) ?_
  refine zwx (rwv x) (run_loadrow (by kernel_rfl) hpk hpv) ?_
  refine wl_make (c := #[.string ({ data := #[] }), .string ({ data := #[] })]) hL 64 (by kernel_rfl) (by kernel_rfl) ?_
  intro q6 w7 (h8 : HA (bs w5) [(q6, 64, #[.string ({ data := #[] }), .string ({ data := #[] })])] w7)
  refine wl_fill (c' := #[.string x.k, .string x.v]) h8 0 rfl (by kernel_rfl) (by kernel_rfl) (by kernel_rfl) rfl (by kernel_rfl) (by kernel_rfl) ?_
  intro w9 (h10 : HA (bs w5) [(q6, 64, #[.string x.k, .string x.v])] w9)
  refine wl_nil ?_
  refine then_at (F := ⟨(.agg #[.slice po ps.length pc, .slice do_ ds.length dc] :: .func (.yield l) #[] #[] :: pt q1 :: un :: un :: pt q6 :: un :: un :: pt q1 :: .slice po ps.length pc :: iN .i64 ps.length :: iN .i64 k :: .bool true :: .pointer (some (pa.add (k * 2))) :: rwv x :: u4 15 :: u4 16 :: u4 17 :: u4 18 :: u4 19 :: u4 20 :: List.replicate 12 un).toArray, []⟩) (by kernel_rfl) ?_
  refine wp_seq ?_
  have hc5 := (h10.get 0 rfl).cell 0
  have hJy := abides hJ hJk h10.old.old
  have hPy := hPk.keep h10.old.old
  have hDy := hDk.keep h10.old.old
  have hBy := hBk.keep h10.old.old
  obtain ⟨fnY, tmpsY, asgY, bodyY, hy, hRY⟩ := hY _ x.k _ hJy (⟨_, (keys_take1 hx).symm⟩)
  simp only [encK] at hy
  refine (wpIn_wide (n := 8)).1 ?_
  clear hpa hpk hpv
  simp only [pt]
  gi_wp2
  first | refine hRY.mono ?_ | refine ⟨fun h => absurd h (by simp [Fence.wide]), hRY.mono ?_⟩
  rintro e W3 (⟨rfl, hJ3, hk3⟩ | ⟨rfl, hJx3⟩)
  ·gi_wp2
   have hs3 := HA.start W3
   refine then_at (F := ⟨(.agg #[.slice po ps.length pc, .slice do_ ds.length dc] :: .func (.yield l) #[] #[] :: pt q1 :: un :: un :: pt q6 :: un :: un :: pt q1 :: .slice po ps.length pc :: iN .i64 ps.length :: iN .i64 k :: .bool true :: .pointer (some (pa.add (k * 2))) :: rwv x :: .func (.yield l) #[] #[] :: pt q6 :: .string x.k :: .bool true :: .bool false :: u4 20 :: List.replicate 12 un).toArray, []⟩) (by kernel_rfl) ?_
   refine wp_cond_false (by kernel_rfl) ?_
   refine wp_skip ?_
   refine block_normal ?_
   refine then_at (F := ⟨(.agg #[.slice po ps.length pc, .slice do_ ds.length dc] :: .func (.yield l) #[] #[] :: pt q1 :: un :: un :: pt q6 :: un :: un :: pt q1 :: .slice po ps.length pc :: iN .i64 ps.length :: iN .i64 k :: .bool true :: .pointer (some (pa.add (k * 2))) :: rwv x :: .func (.yield l) #[] #[] :: pt q6 :: .string x.k :: .bool true :: .bool false :: u4 20 :: List.replicate 12 un).toArray, []⟩) (by kernel_rfl) ?_
   refine wl_region ?_
   refine zwx (iN .i64 (k + 1)) (run_add (k := .i64) (a := k) (b := 1) (by kernel_rfl) (by kernel_rfl) (by first | omega | (simp only [top]; omega))) ?_
   refine zwv (iN .i64 (k + 1)) ?_
   refine wl_nil ?_
   exact then_I ⟨fun ii => (([(5, .pointer (some ⟨q6, 0, none⟩)), (12, .bool true), (13, .pointer (some (pa.add (k * 2)))), (14, rwv x), (15, .func (.yield l) #[] #[]), (16, .pointer (some ⟨q6, 0, none⟩)), (17, .string x.k), (18, .bool true), (19, .bool false), (20, iN .i64 (k + 1))] : List (Nat × Value)).find? (·.1 == ii)).elim undef (·.2), by kernel_rfl, by rw [keys_take1 hx]; exact hJ3, hPy.kp hk3 hpa0, hDy.kp hk3 hda0, cells_kept hBy hk3 (by omega) (by omega)⟩
  ·gi_wp2
   have hs3 := HA.start W3
   refine then_at (F := ⟨(.agg #[.slice po ps.length pc, .slice do_ ds.length dc] :: .func (.yield l) #[] #[] :: pt q1 :: un :: un :: pt q6 :: un :: un :: pt q1 :: .slice po ps.length pc :: iN .i64 ps.length :: iN .i64 k :: .bool true :: .pointer (some (pa.add (k * 2))) :: rwv x :: .func (.yield l) #[] #[] :: pt q6 :: .string x.k :: .bool false :: .bool true :: u4 20 :: List.replicate 12 un).toArray, []⟩) (by kernel_rfl) ?_
   refine wp_cond_true (by kernel_rfl) ?_
   refine wp_ret ?_
   repeat first | refine then_ret ?_ | refine block_ret ?_
   exact bodyPost_ret (v := .tuple #[]) (by kernel_rfl) rfl ⟨⟨_, rfl⟩, .inr ⟨_, hJx3⟩⟩
 ·rintro _ w11 ⟨u4, rfl, hJk, hPk, hDk, hBk⟩
  have hL := HA.start w11
  refine wp_seq ?_
  refine wl_region ?_
  refine zwx (.bool false) (run_lss (k := .i64) (a := ps.length) (b := ps.length) (by kernel_rfl) (by kernel_rfl) false (decide_eq_false (by omega))) ?_
  refine wl_nil ?_
  refine then_at (F := ⟨(.agg #[.slice po ps.length pc, .slice do_ ds.length dc] :: .func (.yield l) #[] #[] :: pt q1 :: un :: un :: u4 5 :: un :: un :: pt q1 :: .slice po ps.length pc :: iN .i64 ps.length :: iN .i64 ps.length :: .bool false :: u4 13 :: u4 14 :: u4 15 :: u4 16 :: u4 17 :: u4 18 :: u4 19 :: u4 20 :: List.replicate 12 un).toArray, []⟩) (by kernel_rfl) ?_
  refine wp_seq ?_
  refine wp_cond_false (by kernel_rfl) ?_
  refine wp_exit ?_
  repeat first | refine then_exit ?_ | refine block_exit ?_ | refine block_exit_ne (by decide) ?_
  refine then_at (F := ⟨(.agg #[.slice po ps.length pc, .slice do_ ds.length dc] :: .func (.yield l) #[] #[] :: pt q1 :: un :: un :: u4 5 :: un :: un :: pt q1 :: .slice po ps.length pc :: iN .i64 ps.length :: iN .i64 ps.length :: .bool false :: u4 13 :: u4 14 :: u4 15 :: u4 16 :: u4 17 :: u4 18 :: u4 19 :: u4 20 :: List.replicate 12 un).toArray, []⟩) (by kernel_rfl) ?_
  refine wp_seq ?_
  refine wl_region ?_
  refine zwv (.pointer (some ⟨q1, 1, none⟩)) ?_
  refine zwx (.slice do_ ds.length dc) (run_load1 (fun w => Tryz.isAgg39 w) (by kernel_rfl) (((hBk.keep hL.old.old).cell 1).trans rfl)) ?_
  refine zwv (iN .i64 ds.length) ?_
  refine zwv (iN .i64 0) ?_
  refine wl_nil ?_
  refine then_at (F := ⟨(.agg #[.slice po ps.length pc, .slice do_ ds.length dc] :: .func (.yield l) #[] #[] :: pt q1 :: un :: un :: u4 5 :: un :: un :: pt q1 :: .slice po ps.length pc :: iN .i64 ps.length :: iN .i64 ps.length :: .bool false :: u4 13 :: u4 14 :: u4 15 :: u4 16 :: u4 17 :: u4 18 :: u4 19 :: u4 20 :: .pointer (some ⟨q1, 1, none⟩) :: .slice do_ ds.length dc :: iN .i64 ds.length :: iN .i64 0 :: List.replicate 8 un).toArray, []⟩) (by kernel_rfl) ?_
  refine wp_block ?_
  refine wp_count (fun k A w' => ∃ u12 : Nat → Value, A = ⟨(.agg #[.slice po ps.length pc, .slice do_ ds.length dc] :: .func (.yield l) #[] #[] :: pt q1 :: un :: un :: u4 5 :: un :: u12 7 :: pt q1 :: .slice po ps.length pc :: iN .i64 ps.length :: iN .i64 ps.length :: .bool false :: u4 13 :: u4 14 :: u4 15 :: u4 16 :: u4 17 :: u4 18 :: u4 19 :: u4 20 :: .pointer (some ⟨q1, 1, none⟩) :: .slice do_ ds.length dc :: iN .i64 ds.length :: iN .i64 k :: u12 25 :: u12 26 :: u12 27 :: u12 28 :: u12 29 :: u12 30 :: u12 31 :: u12 32 :: List.replicate 0 un).toArray, []⟩ ∧ J ((keysOf ps ds).take (ps.length + k)) w' ∧ RowsAt w' po ps ∧ KeysAt w' do_ ds ∧ Blk w' q1 100 #[.slice po ps.length pc, .slice do_ ds.length dc]) ds.length ?_ ?_ ?_
  ·exact ⟨fun ii => (([(7, undef), (25, undef), (26, undef), (27, undef), (28, undef), (29, undef), (30, undef), (31, undef), (32, undef)] : List (Nat × Value)).find? (·.1 == ii)).elim undef (·.2), by kernel_rfl, hJk, hPk, hDk, hBk⟩
  ·rintro k hk _ w13 ⟨u12, rfl, hJk, hPk, hDk, hBk⟩
   have hL := HA.start w13
   obtain ⟨x, hx⟩ : ∃ x, ds[k]? = some x := ⟨_, List.getElem?_eq_getElem hk⟩
   obtain ⟨da, hda, hdk⟩ := hDk k x hx
   refine wp_seq ?_
   refine wl_region ?_
   refine zwx (.bool true) (run_lss (k := .i64) (a := k) (b := ds.length) (by kernel_rfl) (by kernel_rfl) true (decide_eq_true (by omega))) ?_
   refine wl_nil ?_
   refine then_at (F := ⟨(.agg #[.slice po ps.length pc, .slice do_ ds.length dc] :: .func (.yield l) #[] #[] :: pt q1 :: un :: un :: u4 5 :: un :: u12 7 :: pt q1 :: .slice po ps.length pc :: iN .i64 ps.length :: iN .i64 ps.length :: .bool false :: u4 13 :: u4 14 :: u4 15 :: u4 16 :: u4 17 :: u4 18 :: u4 19 :: u4 20 :: .pointer (some ⟨q1, 1, none⟩) :: .slice do_ ds.length dc :: iN .i64 ds.length :: iN .i64 k :: .bool true :: u12 26 :: u12 27 :: u12 28 :: u12 29 :: u12 30 :: u12 31 :: u12 32 :: List.replicate 0 un).toArray, []⟩) (by kernel_rfl) ?_
   refine wp_seq ?_
   refine wp_cond_true (by kernel_rfl) ?_
   refine wp_skip ?_
   refine then_at (F := ⟨(.agg #[.slice po ps.length pc, .slice do_ ds.length dc] :: .func (.yield l) #[] #[] :: pt q1 :: un :: un :: u4 5 :: un :: u12 7 :: pt q1 :: .slice po ps.length pc :: iN .i64 ps.length :: iN .i64 ps.length :: .bool false :: u4 13 :: u4 14 :: u4 15 :: u4 16 :: u4 17 :: u4 18 :: u4 19 :: u4 20 :: .pointer (some ⟨q1, 1, none⟩) :: .slice do_ ds.length dc :: iN .i64 ds.length :: iN .i64 k :: .bool true :: u12 26 :: u12 27 :: u12 28 :: u12 29 :: u12 30 :: u12 31 :: u12 32 :: List.replicate 0 un).toArray, []⟩) (by kernel_rfl) ?_
   refine wp_seq ?_
   refine wp_block ?_
   refine wp_seq ?_
   refine wl_region ?_
   refine zwx (.pointer (some (da.add k))) (run_addr39 (a := da) (n := ds.length) (m := dc) (i := k) hda (by kernel_rfl) (by kernel_rfl) hk) ?_
   refine zwx (.string x) (run_load_at (b := da.add k) (fun w => Tryz.isAgg9 w) (by kernel_rfl) hdk) ?_
   refine zwv (.string x) ?_
   refine wl_nil ?_
   refine then_at (F := ⟨(.agg #[.slice po ps.length pc, .slice do_ ds.length dc] :: .func (.yield l) #[] #[] :: pt q1 :: un :: un :: u4 5 :: un :: .string x :: pt q1 :: .slice po ps.length pc :: iN .i64 ps.length :: iN .i64 ps.length :: .bool false :: u4 13 :: u4 14 :: u4 15 :: u4 16 :: u4 17 :: u4 18 :: u4 19 :: u4 20 :: .pointer (some ⟨q1, 1, none⟩) :: .slice do_ ds.length dc :: iN .i64 ds.length :: iN .i64 k :: .bool true :: .pointer (some (da.add k)) :: .string x :: u12 28 :: u12 29 :: u12 30 :: u12 31 :: u12 32 :: List.replicate 0 un).toArray, []⟩) (by kernel_rfl) ?_
   refine wp_seq ?_
   have hJy := abides hJ hJk hL.old.old
   have hPy := hPk.keep hL.old.old
   have hDy := hDk.keep hL.old.old
   have hBy := hBk.keep hL.old.old
   obtain ⟨fnY, tmpsY, asgY, bodyY, hy, hRY⟩ := hY _ x _ hJy (⟨_, (keys_take2 hx).symm⟩)
   simp only [encK] at hy
   refine (wpIn_wide (n := 8)).1 ?_
   clear hda hdk
   simp only [pt]
   gi_wp2
   first | refine hRY.mono ?_ | refine ⟨fun h => absurd h (by simp [Fence.wide]), hRY.mono ?_⟩
   rintro e W3 (⟨rfl, hJ3, hk3⟩ | ⟨rfl, hJx3⟩)
   ·gi_wp2
    have hs3 := HA.start W3
    refine then_at (F := ⟨(.agg #[.slice po ps.length pc, .slice do_ ds.length dc] :: .func (.yield l) #[] #[] :: pt q1 :: un :: un :: u4 5 :: un :: .string x :: pt q1 :: .slice po ps.length pc :: iN .i64 ps.length :: iN .i64 ps.length :: .bool false :: u4 13 :: u4 14 :: u4 15 :: u4 16 :: u4 17 :: u4 18 :: u4 19 :: u4 20 :: .pointer (some ⟨q1, 1, none⟩) :: .slice do_ ds.length dc :: iN .i64 ds.length :: iN .i64 k :: .bool true :: .pointer (some (da.add k)) :: .string x :: .func (.yield l) #[] #[] :: .string x :: .bool true :: .bool false :: u12 32 :: List.replicate 0 un).toArray, []⟩) (by kernel_rfl) ?_
    refine wp_cond_false (by kernel_rfl) ?_
    refine wp_skip ?_
    refine block_normal ?_
    refine then_at (F := ⟨(.agg #[.slice po ps.length pc, .slice do_ ds.length dc] :: .func (.yield l) #[] #[] :: pt q1 :: un :: un :: u4 5 :: un :: .string x :: pt q1 :: .slice po ps.length pc :: iN .i64 ps.length :: iN .i64 ps.length :: .bool false :: u4 13 :: u4 14 :: u4 15 :: u4 16 :: u4 17 :: u4 18 :: u4 19 :: u4 20 :: .pointer (some ⟨q1, 1, none⟩) :: .slice do_ ds.length dc :: iN .i64 ds.length :: iN .i64 k :: .bool true :: .pointer (some (da.add k)) :: .string x :: .func (.yield l) #[] #[] :: .string x :: .bool true :: .bool false :: u12 32 :: List.replicate 0 un).toArray, []⟩) (by kernel_rfl) ?_
    refine wl_region ?_
    refine zwx (iN .i64 (k + 1)) (run_add (k := .i64) (a := k) (b := 1) (by kernel_rfl) (by kernel_rfl) (by first | omega | (simp only [top]; omega))) ?_
    refine zwv (iN .i64 (k + 1)) ?_
    refine wl_nil ?_
    exact then_I ⟨fun ii => (([(7, .string x), (25, .bool true), (26, .pointer (some (da.add k))), (27, .string x), (28, .func (.yield l) #[] #[]), (29, .string x), (30, .bool true), (31, .bool false), (32, iN .i64 (k + 1))] : List (Nat × Value)).find? (·.1 == ii)).elim undef (·.2), by kernel_rfl, by rw [show ps.length + (k + 1) = ps.length + k + 1 by omega, keys_take2 hx]; exact hJ3, hPy.kp hk3 hpa0, hDy.kp hk3 hda0, cells_kept hBy hk3 (by omega) (by omega)⟩
   ·gi_wp2
    have hs3 := HA.start W3
    refine then_at (F := ⟨(.agg #[.slice po ps.length pc, .slice do_ ds.length dc] :: .func (.yield l) #[] #[] :: pt q1 :: un :: un :: u4 5 :: un :: .string x :: pt q1 :: .slice po ps.length pc :: iN .i64 ps.length :: iN .i64 ps.length :: .bool false :: u4 13 :: u4 14 :: u4 15 :: u4 16 :: u4 17 :: u4 18 :: u4 19 :: u4 20 :: .pointer (some ⟨q1, 1, none⟩) :: .slice do_ ds.length dc :: iN .i64 ds.length :: iN .i64 k :: .bool true :: .pointer (some (da.add k)) :: .string x :: .func (.yield l) #[] #[] :: .string x :: .bool false :: .bool true :: u12 32 :: List.replicate 0 un).toArray, []⟩) (by kernel_rfl) ?_
    refine wp_cond_true (by kernel_rfl) ?_
    refine wp_ret ?_
    repeat first | refine then_ret ?_ | refine block_ret ?_
    exact bodyPost_ret (v := .tuple #[]) (by kernel_rfl) rfl ⟨⟨_, rfl⟩, .inr ⟨_, hJx3⟩⟩
  ·rintro _ w14 ⟨u12, rfl, hJk, hPk, hDk, hBk⟩
   have hL := HA.start w14
   refine wp_seq ?_
   refine wl_region ?_
   refine zwx (.bool false) (run_lss (k := .i64) (a := ds.length) (b := ds.length) (by kernel_rfl) (by kernel_rfl) false (decide_eq_false (by omega))) ?_
   refine wl_nil ?_
   refine then_at (F := ⟨(.agg #[.slice po ps.length pc, .slice do_ ds.length dc] :: .func (.yield l) #[] #[] :: pt q1 :: un :: un :: u4 5 :: un :: u12 7 :: pt q1 :: .slice po ps.length pc :: iN .i64 ps.length :: iN .i64 ps.length :: .bool false :: u4 13 :: u4 14 :: u4 15 :: u4 16 :: u4 17 :: u4 18 :: u4 19 :: u4 20 :: .pointer (some ⟨q1, 1, none⟩) :: .slice do_ ds.length dc :: iN .i64 ds.length :: iN .i64 ds.length :: .bool false :: u12 26 :: u12 27 :: u12 28 :: u12 29 :: u12 30 :: u12 31 :: u12 32 :: List.replicate 0 un).toArray, []⟩) (by kernel_rfl) ?_
   refine wp_seq ?_
   refine wp_cond_false (by kernel_rfl) ?_
   refine wp_exit ?_
   repeat first | refine then_exit ?_ | refine block_exit ?_ | refine block_exit_ne (by decide) ?_
   exact bodyPost_end (v := .tuple #[]) (by kernel_rfl) rfl ⟨⟨_, rfl⟩, .inl ⟨_, rfl, by have h9 := hJk; rw [List.take_of_length_le (by rw [keysOf, List.length_append, List.length_map]; omega)] at h9; exact h9⟩⟩
theorem keys_seq {po do_ : Option Addr} {pc dc : Nat} {ps : List Rw} {ds : List ByteArray} {w : World} {ka kb : Nat} (hP : RowsAt w po ps) (hD : KeysAt w do_ ds) (hpa0 : ps ≠ [] → apA po ka kb) (hda0 : ds ≠ [] → apA do_ ka kb) (hka : ka < w.heap.size) (hkb : kb < w.heap.size) (hpl : ps.length ≤ 1000000000) (hdl : ds.length ≤ 1000000000) :
  SeqR Tryz.prog 102 #[.agg #[.slice po ps.length pc, .slice do_ ds.length dc]] #[] encK (KpC ka kb) (fun xs => xs = keysOf ps ds) (fun xs => ∃ n, xs = (keysOf ps ds).take n) w := fun l J Jx W hW hJ hJx hY h0 =>
 callsIn_wide.2 (keys_calls hJ (hP.keep hW) (hD.keep hW) hpa0 hda0 (by have := hW.size; omega) (by have := hW.size; omega) hpl hdl hY h0)
end Go.Proofs.YtckmlaempffpjaaGreat

namespace Go.Proofs.YtckmlaempffpjaaGreat
open Go.RowKit Go.Shelf
attribute [local go_sem] Oper.semAt_some

/-- more than may be -/
def lng (n : Nat) (ks : List ByteArray) : Bool := decide (64 < n) || ks.any fun k => decide (64 < k.size)
def lngV (ps : List Rw) : Bool := ps.any fun x => decide (262144 < x.v.size)
/-- why a change may not be -/
def refR (ps : List Rw) (ds : List ByteArray) : Nat := if (keysOf ps ds).any (fun k => decide (k.size = 0)) = true then 2 else if (lng (ps.length + ds.length) (keysOf ps ds) || lngV ps) = true then 3 else 0
theorem lng_snoc (n : Nat) (ks : List ByteArray) (x : ByteArray) : lng n (ks ++ [x]) = (lng n ks || decide (64 < x.size)) := by
 unfold lng
 rw [List.any_append, Bool.or_assoc]
 simp
theorem lngV_take {ps : List Rw} {k : Nat} {x : Rw} (h : ps[k]? = some x) : lngV (ps.take (k + 1)) = (lngV (ps.take k) || decide (262144 < x.v.size)) := by
 rw [take_snoc h]
 unfold lngV
 rw [List.any_append]
 simp
theorem any_of_take {ks : List ByteArray} {n : Nat} {pre : List ByteArray} {x : ByteArray} (h : pre ++ [x] = ks.take n) (hx : x.size = 0) : ks.any (fun k => decide (k.size = 0)) = true := by
 rw [List.any_eq_true]
 exact ⟨x, List.take_subset n ks (by rw [← h]; simp), decide_eq_true hx⟩
theorem res_one {w : World} {fn : Func} {p : Tmp} {ty : TypeId} {ts : Array Value} {q : Nat} {v : Value} (hf : fn.results = #[.cell p ty]) (ht : ts.getD p undef = .pointer (some ⟨q, 0, none⟩)) (hT : ∀ w, (isAgg ty).run Tryz.prog w = .ok false w) (hc : w.cell? ⟨q, 0, none⟩ = some v) : (results fn ts).run Tryz.prog w = .ok v w := by
 have ht2 : ts[p]?.getD undef = .pointer (some ⟨q, 0, none⟩) := by simpa using ht
 have hl : (loadVar ty ⟨q, 0, none⟩).run Tryz.prog w = .ok v w := by
  simp [loadVar, Sem.run_bind, hT, hc]
 simp [results, hf, asAddr, ht2, hl]
set_option linter.unusedVariables false in
set_option maxRecDepth 100000 in
set_option maxHeartbeats 2000000 in
theorem refused_any {po do_ : Option Addr} {pc dc : Nat} {ps : List Rw} {ds : List ByteArray} {w : World} (hP : RowsAt w po ps) (hD : KeysAt w do_ ds) (hpl : ps.length ≤ 1000000000) (hdl : ds.length ≤ 1000000000) :
  Calls Tryz.prog 51 #[.agg #[.slice po ps.length pc, .slice do_ ds.length dc]] w fun e w' => e = .returned (iN .i64 (refR ps ds)) ∧ Below w.heap.size w w' := by
 have H0 := HA.start w
 refine (callsIn_wide (n := 9)).1 (callsIn_of_wp_marks (F := Fence.wide) Tryz.func51 rfl trivial ?_)
 refine wpIn_wide.2 ?_
 refine wp_seq ?_
 refine wl_region ?_
 refine wl_make (c := #[.slice po ps.length pc, .slice do_ ds.length dc]) H0 100 (by kernel_rfl) (by kernel_rfl) ?_
 intro q1 w2 (h3 : HA (bs w) [(q1, 100, #[.slice po ps.length pc, .slice do_ ds.length dc])] w2)
 refine wl_make (c := #[iN .i64 0]) h3 33 (by kernel_rfl) (by kernel_rfl) ?_
 intro q4 w5 (h6 : HA (bs w) [(q4, 33, #[iN .i64 0]), (q1, 100, #[.slice po ps.length pc, .slice do_ ds.length dc])] w5)
 refine wl_nil ?_
 refine then_at (F := ⟨(.agg #[.slice po ps.length pc, .slice do_ ds.length dc] :: pt q1 :: pt q4 :: List.replicate 34 un).toArray, []⟩) (by kernel_rfl) ?_
 refine wp_seq ?_
 refine wl_region ?_
 refine wl_load h6 1 rfl (by kernel_rfl) (by kernel_rfl) Tryz.underlying100 rfl (by kernel_rfl) ?_
 refine wl_call (v := iN .i64 (ps.length + ds.length)) h6 (by kernel_rfl) enter52 #[.agg (#[.slice po ps.length pc, .slice do_ ds.length dc])] (by kernel_rfl) (count_any hpl hdl w5) ?_
 intro w7 h8
 refine wl_val (.bool ((decide (64 < ps.length + ds.length)))) (by kernel_rfl) (run_gtr (k := .i64) (a := ps.length + ds.length) (b := 64) (by kernel_rfl) (by kernel_rfl) (decide (64 < ps.length + ds.length)) rfl) ?_
 refine wl_make (c := #[.bool false]) h8 4 (by kernel_rfl) (by kernel_rfl) ?_
 intro q9 w10 (h11 : HA (bs w) [(q9, 4, #[.bool false]), (q4, 33, #[iN .i64 0]), (q1, 100, #[.slice po ps.length pc, .slice do_ ds.length dc])] w10)
 refine wl_putv (v := .bool ((decide (64 < ps.length + ds.length)))) h11 0 rfl 0 (by show 0 < 1; decide) (by kernel_rfl) (fun w => Tryz.sizeOf4 w) (by kernel_rfl) (by kernel_rfl) (by kernel_rfl) ?_
 intro w12 (h13 : HA (bs w) [(q9, 4, #[.bool ((decide (64 < ps.length + ds.length)))]), (q4, 33, #[iN .i64 0]), (q1, 100, #[.slice po ps.length pc, .slice do_ ds.length dc])] w12)
 refine wl_nil ?_
 refine then_at (F := ⟨(.agg #[.slice po ps.length pc, .slice do_ ds.length dc] :: pt q1 :: pt q4 :: pt q9 :: un :: un :: un :: .agg (#[.slice po ps.length pc, .slice do_ ds.length dc]) :: iN .i64 (ps.length + ds.length) :: .bool ((decide (64 < ps.length + ds.length))) :: List.replicate 27 un).toArray, []⟩) (by kernel_rfl) ?_
 refine wp_seq ?_
 refine wp_seq ?_
 refine wl_region ?_
 refine wl_load h13 2 rfl (by kernel_rfl) (by kernel_rfl) Tryz.underlying100 rfl (by kernel_rfl) ?_
 refine zwv (.func (.func 102) #[.agg (#[.slice po ps.length pc, .slice do_ ds.length dc])] #[]) ?_
 refine wl_nil ?_
 refine then_at (F := ⟨(.agg #[.slice po ps.length pc, .slice do_ ds.length dc] :: pt q1 :: pt q4 :: pt q9 :: un :: un :: un :: .agg (#[.slice po ps.length pc, .slice do_ ds.length dc]) :: iN .i64 (ps.length + ds.length) :: .bool ((decide (64 < ps.length + ds.length))) :: .agg (#[.slice po ps.length pc, .slice do_ ds.length dc]) :: .func (.func 102) #[.agg (#[.slice po ps.length pc, .slice do_ ds.length dc])] #[] :: List.replicate 25 un).toArray, []⟩) (by kernel_rfl) ?_
 refine wp_block ?_
 refine wp_rangeR (α := ByteArray) (gf := 102) (rb := #[.agg #[.slice po ps.length pc, .slice do_ ds.length dc]]) (lb := #[]) (by kernel_rfl) enter102 (keys_seq (ka := q9) (kb := q4) (hP.keep h13.old.old) (hD.keep h13.old.old) (hP.ap (h13.own _ (List.mem_of_getElem? (i := 0) rfl)) (h13.own _ (List.mem_of_getElem? (i := 1) rfl))) (hD.ap (h13.own _ (List.mem_of_getElem? (i := 0) rfl)) (h13.own _ (List.mem_of_getElem? (i := 1) rfl))) (h13.get 0 rfl).lt (h13.get 1 rfl).lt hpl hdl) (fun h k => KpC.trans h k) (fun W l o o' _ hl hc _ => KpC.obj W l o o' hl hc) (fun _ => rfl) (fun pre W => HA (bs w) [(q9, 4, #[.bool (lng (ps.length + ds.length) pre)]), (q4, 33, #[iN .i64 0]), (q1, 100, #[.slice po ps.length pc, .slice do_ ds.length dc])] W ∧ ∀ k ∈ pre, k.size ≠ 0) (fun pre W => HA (bs w) [(q9, 4, #[.bool (lng (ps.length + ds.length) (pre.take (pre.length - 1)))]), (q4, 33, #[iN .i64 2]), (q1, 100, #[.slice po ps.length pc, .slice do_ ds.length dc])] W ∧ (keysOf ps ds).any (fun k => decide (k.size = 0)) = true) (own_ha h13.old.old.size _ _) (own_ha h13.old.old.size _ _) (⟨by have h9 := h13; simpa [lng] using h9, fun _ hk => by cases hk⟩) (fun x => ⟨(.agg #[.slice po ps.length pc, .slice do_ ds.length dc] :: pt q1 :: pt q4 :: pt q9 :: .string x :: un :: un :: .agg (#[.slice po ps.length pc, .slice do_ ds.length dc]) :: iN .i64 (ps.length + ds.length) :: .bool ((decide (64 < ps.length + ds.length))) :: .agg (#[.slice po ps.length pc, .slice do_ ds.length dc]) :: .func (.func 102) #[.agg (#[.slice po ps.length pc, .slice do_ ds.length dc])] #[] :: .string x :: List.replicate 24 un).toArray, []⟩) ?_ ?_ ?_ ?_
 ·intro l x W K hK
  dsimp only [encK]; gi_wp2
  exact hK
 ·rintro l pre x W ⟨hH, hne⟩ ⟨n, hn⟩
  have hc3 := (hH.get 0 rfl).cell 0
  have hf3 := (hH.get 0 rfl).free 0 (by simp)
  have hc2 := (hH.get 1 rfl).cell 0
  have hf2 := (hH.get 1 rfl).free 0 (by simp)
  have hB3 := hH.get 0 rfl
  have hB2 := hH.get 1 rfl
  have hpn : pre ++ [x] = (keysOf ps ds).take n := hn
  clear hn
  by_cases hx : x.size = 0
  ·have hany := any_of_take hpn hx
   obtain rfl : x = { data := #[] } := bl_inj (List.eq_nil_of_length_eq_zero (by rw [bl_len]; exact hx))
   clear hpn hx
   generalize hR : rndP _ _ _ _ _ _ = R
   simp only [pt]
   gi_wp2
   rw [← hR]
   refine ⟨keeps_set W _ 0 _ hB2, .inr ⟨rfl, ?_, hany⟩⟩
   have h9 := hH.put 1 rfl 0 (.int .i64 2)
   rw [List.length_append, List.length_singleton, Nat.add_sub_cancel, List.take_left]
   exact h9
  ·have hx1 : ¬ x = ByteArray.empty := fun e => hx (by rw [e]; rfl)
   clear hpn
   generalize hR : rndP _ _ _ _ _ _ = R
   have hxe : x.toList.isEmpty = false := by
    rw [ByteArray.toList_eq]
    cases hz : x.data.toList with
    | nil => exact absurd (show x.size = 0 by rw [← bl_len]; exact congrArg List.length hz) hx
    | cons _ _ => rfl
   have hnk : ∀ k ∈ pre ++ [x], k.size ≠ 0 := fun k hk => by
    rcases List.mem_append.1 hk with hk | hk
    ·exact hne k hk
    ·rw [List.mem_singleton.1 hk]; exact hx
   clear hne
   cases hlg : lng (ps.length + ds.length) pre with
   | true =>
    rw [hlg] at hc3
    simp only [pt]
    gi_wp2
    rw [← hR]
    refine ⟨keeps_set W _ 0 _ hB3, .inl ⟨rfl, KpC.set W _ 0 _ (.inl rfl), ?_, hnk⟩⟩
    have h9 := hH.put 0 rfl 0 (.bool true)
    rw [lng_snoc, hlg]
    exact h9
   | false =>
    rw [hlg] at hc3
    by_cases hgt : 64 < x.size
    ·have hgi : (64 : Int) < (x.size : Int) := by omega
     simp only [pt]
     gi_wp2
     rw [← hR]
     refine ⟨keeps_set W _ 0 _ hB3, .inl ⟨rfl, KpC.set W _ 0 _ (.inl rfl), ?_, hnk⟩⟩
     have h9 := hH.put 0 rfl 0 (.bool true)
     rw [lng_snoc, hlg, decide_eq_true hgt]
     exact h9
    ·have hgi : ¬ (64 : Int) < (x.size : Int) := by omega
     simp only [pt]
     gi_wp2
     rw [← hR]
     refine ⟨keeps_set W _ 0 _ hB3, .inl ⟨rfl, KpC.set W _ 0 _ (.inl rfl), ?_, hnk⟩⟩
     have h9 := hH.put 0 rfl 0 (.bool false)
     rw [lng_snoc, hlg, decide_eq_false hgt]
     exact h9
 ·rintro D xs W hD rfl ⟨hH, hne⟩ hdf
  have hno : ¬ (keysOf ps ds).any (fun k => decide (k.size = 0)) = true := fun e => by obtain ⟨y, hy, hz⟩ := List.any_eq_true.1 e; exact hne y hy (of_decide_eq_true hz)
  have hm := hH.mark (Nat.le_trans h13.old.old.size hD) hdf
  refine block_normal ?_
  refine then_at (F := ⟨(.agg #[.slice po ps.length pc, .slice do_ ds.length dc] :: pt q1 :: pt q4 :: pt q9 :: un :: un :: un :: .agg (#[.slice po ps.length pc, .slice do_ ds.length dc]) :: iN .i64 (ps.length + ds.length) :: .bool ((decide (64 < ps.length + ds.length))) :: .agg (#[.slice po ps.length pc, .slice do_ ds.length dc]) :: .func (.func 102) #[.agg (#[.slice po ps.length pc, .slice do_ ds.length dc])] #[] :: List.replicate 25 un).toArray, (mkd D)⟩) (by kernel_rfl) ?_
  refine then_at (F := ⟨(.agg #[.slice po ps.length pc, .slice do_ ds.length dc] :: pt q1 :: pt q4 :: pt q9 :: un :: un :: un :: .agg (#[.slice po ps.length pc, .slice do_ ds.length dc]) :: iN .i64 (ps.length + ds.length) :: .bool ((decide (64 < ps.length + ds.length))) :: .agg (#[.slice po ps.length pc, .slice do_ ds.length dc]) :: .func (.func 102) #[.agg (#[.slice po ps.length pc, .slice do_ ds.length dc])] #[] :: List.replicate 25 un).toArray, (mkd D)⟩) (by kernel_rfl) ?_
  refine wp_seq ?_
  refine wp_seq ?_
  refine wl_region ?_
  refine zwv (.pointer (some ⟨q1, 0, none⟩)) ?_
  refine zwx (.slice po ps.length pc) (run_load1 (fun w => Tryz.isAgg30 w) (by kernel_rfl) (((hm.get 2 rfl).cell 0).trans rfl)) ?_
  refine zwv (iN .i64 ps.length) ?_
  refine zwv (iN .i64 0) ?_
  refine wl_nil ?_
  refine then_at (F := ⟨(.agg #[.slice po ps.length pc, .slice do_ ds.length dc] :: pt q1 :: pt q4 :: pt q9 :: un :: un :: un :: .agg (#[.slice po ps.length pc, .slice do_ ds.length dc]) :: iN .i64 (ps.length + ds.length) :: .bool ((decide (64 < ps.length + ds.length))) :: .agg (#[.slice po ps.length pc, .slice do_ ds.length dc]) :: .func (.func 102) #[.agg (#[.slice po ps.length pc, .slice do_ ds.length dc])] #[] :: un :: un :: un :: un :: un :: un :: un :: un :: un :: pt q1 :: .slice po ps.length pc :: iN .i64 ps.length :: iN .i64 0 :: List.replicate 12 un).toArray, (mkd D)⟩) (by kernel_rfl) ?_
  refine wp_block ?_
  refine wp_count (fun k A w' => ∃ u14 : Nat → Value, A = ⟨(.agg #[.slice po ps.length pc, .slice do_ ds.length dc] :: pt q1 :: pt q4 :: pt q9 :: un :: un :: u14 6 :: .agg (#[.slice po ps.length pc, .slice do_ ds.length dc]) :: iN .i64 (ps.length + ds.length) :: .bool ((decide (64 < ps.length + ds.length))) :: .agg (#[.slice po ps.length pc, .slice do_ ds.length dc]) :: .func (.func 102) #[.agg (#[.slice po ps.length pc, .slice do_ ds.length dc])] #[] :: un :: un :: un :: un :: un :: un :: un :: un :: un :: pt q1 :: .slice po ps.length pc :: iN .i64 ps.length :: iN .i64 k :: u14 25 :: u14 26 :: u14 27 :: u14 28 :: u14 29 :: u14 30 :: u14 31 :: u14 32 :: u14 33 :: u14 34 :: u14 35 :: List.replicate 1 un).toArray, (mkd D)⟩ ∧ HA ⟨w, [(D, .df)]⟩ [(q9, 4, #[.bool (lng (ps.length + ds.length) (keysOf ps ds) || lngV (ps.take k))]), (q4, 33, #[iN .i64 0]), (q1, 100, #[.slice po ps.length pc, .slice do_ ds.length dc])] w') ps.length ?_ ?_ ?_
  ·exact ⟨fun ii => (([(6, undef), (25, undef), (26, undef), (27, undef), (28, undef), (29, undef), (30, undef), (31, undef), (32, undef), (33, undef), (34, undef), (35, undef)] : List (Nat × Value)).find? (·.1 == ii)).elim undef (·.2), by kernel_rfl, by have h9 := hm; rw [List.take_zero, show lngV [] = false from rfl, Bool.or_false]; exact h9⟩
  ·rintro k hk _ w15 ⟨u14, rfl, hL⟩
   obtain ⟨b, hb⟩ : ∃ b, b = (lng (ps.length + ds.length) (keysOf ps ds) || lngV (ps.take k)) := ⟨_, rfl⟩
   rw [← hb] at hL
   obtain ⟨x, hx⟩ : ∃ x, ps[k]? = some x := ⟨_, List.getElem?_eq_getElem hk⟩
   obtain ⟨pa, hpa, hpk, hpv⟩ := hP k x hx
   have hpx : ∀ w', Below w.heap.size w w' → w'.cell? (pa.add (k * 2)) = some (.string x.k) ∧ w'.cell? (pa.add (k * 2 + 1)) = some (.string x.v) := fun w' hw' => ⟨cell_old hw' hpk, cell_old hw' hpv⟩
   refine wp_seq ?_
   refine wl_region ?_
   refine zwx (.bool true) (run_lss (k := .i64) (a := k) (b := ps.length) (by kernel_rfl) (by kernel_rfl) true (decide_eq_true (by omega))) ?_
   refine wl_nil ?_
   refine then_at (F := ⟨(.agg #[.slice po ps.length pc, .slice do_ ds.length dc] :: pt q1 :: pt q4 :: pt q9 :: un :: un :: u14 6 :: .agg (#[.slice po ps.length pc, .slice do_ ds.length dc]) :: iN .i64 (ps.length + ds.length) :: .bool ((decide (64 < ps.length + ds.length))) :: .agg (#[.slice po ps.length pc, .slice do_ ds.length dc]) :: .func (.func 102) #[.agg (#[.slice po ps.length pc, .slice do_ ds.length dc])] #[] :: un :: un :: un :: un :: un :: un :: un :: un :: un :: pt q1 :: .slice po ps.length pc :: iN .i64 ps.length :: iN .i64 k :: .bool true :: u14 26 :: u14 27 :: u14 28 :: u14 29 :: u14 30 :: u14 31 :: u14 32 :: u14 33 :: u14 34 :: u14 35 :: List.replicate 1 un).toArray, (mkd D)⟩) (by kernel_rfl) ?_
   refine wp_seq ?_
   refine wp_cond_true (by kernel_rfl) ?_
   refine wp_skip ?_
   refine then_at (F := ⟨(.agg #[.slice po ps.length pc, .slice do_ ds.length dc] :: pt q1 :: pt q4 :: pt q9 :: un :: un :: u14 6 :: .agg (#[.slice po ps.length pc, .slice do_ ds.length dc]) :: iN .i64 (ps.length + ds.length) :: .bool ((decide (64 < ps.length + ds.length))) :: .agg (#[.slice po ps.length pc, .slice do_ ds.length dc]) :: .func (.func 102) #[.agg (#[.slice po ps.length pc, .slice do_ ds.length dc])] #[] :: un :: un :: un :: un :: un :: un :: un :: un :: un :: pt q1 :: .slice po ps.length pc :: iN .i64 ps.length :: iN .i64 k :: .bool true :: u14 26 :: u14 27 :: u14 28 :: u14 29 :: u14 30 :: u14 31 :: u14 32 :: u14 33 :: u14 34 :: u14 35 :: List.replicate 1 un).toArray, (mkd D)⟩) (by kernel_rfl) ?_
   refine wp_seq ?_
   refine wp_block ?_
   refine wp_seq ?_
   refine wl_region ?_
   refine wl_val (.pointer (some (pa.add (k * 2)))) (by kernel_rfl) (run_addr30 (a := pa) (n := ps.length) (m := pc) (i := k) hpa (by kernel_rfl) (by kernel_rfl) hk) ?_
   refine zwx (rwv x) (run_loadrow (by kernel_rfl) (hpx _ hL.old.old).1 (hpx _ hL.old.old).2) ?_
   refine wl_make (c := #[.string ({ data := #[] }), .string ({ data := #[] })]) hL 64 (by kernel_rfl) (by kernel_rfl) ?_
   intro q16 w17 (h18 : HA ⟨w, [(D, .df)]⟩ [(q16, 64, #[.string ({ data := #[] }), .string ({ data := #[] })]), (q9, 4, #[.bool b]), (q4, 33, #[iN .i64 0]), (q1, 100, #[.slice po ps.length pc, .slice do_ ds.length dc])] w17)
   refine wl_fill (c' := #[.string x.k, .string x.v]) h18 0 rfl (by kernel_rfl) (by kernel_rfl) (by kernel_rfl) rfl (by kernel_rfl) (by kernel_rfl) ?_
   intro w19 (h20 : HA ⟨w, [(D, .df)]⟩ [(q16, 64, #[.string x.k, .string x.v]), (q9, 4, #[.bool b]), (q4, 33, #[iN .i64 0]), (q1, 100, #[.slice po ps.length pc, .slice do_ ds.length dc])] w19)
   refine wl_nil ?_
   refine then_at (F := ⟨(.agg #[.slice po ps.length pc, .slice do_ ds.length dc] :: pt q1 :: pt q4 :: pt q9 :: un :: un :: pt q16 :: .agg (#[.slice po ps.length pc, .slice do_ ds.length dc]) :: iN .i64 (ps.length + ds.length) :: .bool ((decide (64 < ps.length + ds.length))) :: .agg (#[.slice po ps.length pc, .slice do_ ds.length dc]) :: .func (.func 102) #[.agg (#[.slice po ps.length pc, .slice do_ ds.length dc])] #[] :: un :: un :: un :: un :: un :: un :: un :: un :: un :: pt q1 :: .slice po ps.length pc :: iN .i64 ps.length :: iN .i64 k :: .bool true :: .pointer (some (pa.add (k * 2))) :: rwv x :: u14 28 :: u14 29 :: u14 30 :: u14 31 :: u14 32 :: u14 33 :: u14 34 :: u14 35 :: List.replicate 1 un).toArray, (mkd D)⟩) (by kernel_rfl) ?_
   cases b
   ·by_cases hgt : 262144 < x.v.size
    ·refine wl_region ?_
     refine zwx (.bool false) (run_load1 (fun w => Tryz.isAgg4 w) (by kernel_rfl) (((h20.get 1 rfl).cell 0).trans rfl)) ?_
     refine zwv (.bool false) ?_
     refine zwv (.pointer (some ⟨q16, 1, none⟩)) ?_
     refine zwx (.string x.v) (run_load1 (fun w => Tryz.isAgg9 w) (by kernel_rfl) (((h20.get 0 rfl).cell 1).trans rfl)) ?_
     refine zwx (iN .i64 x.v.size) (run_len (s := x.v) (by kernel_rfl)) ?_
     refine zwx (.bool true) (run_gtr (k := .i64) (a := x.v.size) (b := 262144) (by kernel_rfl) (by kernel_rfl) true (decide_eq_true hgt)) ?_
     refine zwv (.bool true) ?_
     refine wl_putv (v := .bool true) h20 1 rfl 0 (by show 0 < 1; decide) (by kernel_rfl) (fun w => Tryz.sizeOf4 w) (by kernel_rfl) (by kernel_rfl) (by kernel_rfl) ?_
     intro w21 (h22 : HA ⟨w, [(D, .df)]⟩ [(q16, 64, #[.string x.k, .string x.v]), (q9, 4, #[.bool true]), (q4, 33, #[iN .i64 0]), (q1, 100, #[.slice po ps.length pc, .slice do_ ds.length dc])] w21)
     refine wl_nil ?_
     refine block_normal ?_
     refine then_at (F := ⟨(.agg #[.slice po ps.length pc, .slice do_ ds.length dc] :: pt q1 :: pt q4 :: pt q9 :: un :: un :: pt q16 :: .agg (#[.slice po ps.length pc, .slice do_ ds.length dc]) :: iN .i64 (ps.length + ds.length) :: .bool ((decide (64 < ps.length + ds.length))) :: .agg (#[.slice po ps.length pc, .slice do_ ds.length dc]) :: .func (.func 102) #[.agg (#[.slice po ps.length pc, .slice do_ ds.length dc])] #[] :: un :: un :: un :: un :: un :: un :: un :: un :: un :: pt q1 :: .slice po ps.length pc :: iN .i64 ps.length :: iN .i64 k :: .bool true :: .pointer (some (pa.add (k * 2))) :: rwv x :: .bool false :: .bool false :: .pointer (some ⟨q16, 1, none⟩) :: .string x.v :: iN .i64 x.v.size :: .bool true :: .bool true :: u14 35 :: List.replicate 1 un).toArray, (mkd D)⟩) (by kernel_rfl) ?_
     refine wl_region ?_
     refine zwx (iN .i64 (k + 1)) (run_add (k := .i64) (a := k) (b := 1) (by kernel_rfl) (by kernel_rfl) (by first | omega | (simp only [top]; omega))) ?_
     refine zwv (iN .i64 (k + 1)) ?_
     refine wl_nil ?_
     exact then_I ⟨fun ii => (([(6, .pointer (some ⟨q16, 0, none⟩)), (25, .bool true), (26, .pointer (some (pa.add (k * 2)))), (27, rwv x), (28, .bool false), (29, .bool false), (30, .pointer (some ⟨q16, 1, none⟩)), (31, .string x.v), (32, iN .i64 x.v.size), (33, .bool true), (34, .bool true), (35, iN .i64 (k + 1))] : List (Nat × Value)).find? (·.1 == ii)).elim undef (·.2), by kernel_rfl, by rw [show (lng (ps.length + ds.length) (keysOf ps ds) || lngV (ps.take (k + 1))) = true by rw [lngV_take hx, ← Bool.or_assoc, ← hb, decide_eq_true hgt]; rfl]; exact h22.sub (List.Sublist.cons _ (List.Sublist.cons_cons _ (List.Sublist.cons_cons _ (List.Sublist.cons_cons _ (List.Sublist.refl _)))))⟩
    ·refine wl_region ?_
     refine zwx (.bool false) (run_load1 (fun w => Tryz.isAgg4 w) (by kernel_rfl) (((h20.get 1 rfl).cell 0).trans rfl)) ?_
     refine zwv (.bool false) ?_
     refine zwv (.pointer (some ⟨q16, 1, none⟩)) ?_
     refine zwx (.string x.v) (run_load1 (fun w => Tryz.isAgg9 w) (by kernel_rfl) (((h20.get 0 rfl).cell 1).trans rfl)) ?_
     refine zwx (iN .i64 x.v.size) (run_len (s := x.v) (by kernel_rfl)) ?_
     refine zwx (.bool false) (run_gtr (k := .i64) (a := x.v.size) (b := 262144) (by kernel_rfl) (by kernel_rfl) false (decide_eq_false hgt)) ?_
     refine zwv (.bool false) ?_
     refine wl_putv (v := .bool false) h20 1 rfl 0 (by show 0 < 1; decide) (by kernel_rfl) (fun w => Tryz.sizeOf4 w) (by kernel_rfl) (by kernel_rfl) (by kernel_rfl) ?_
     intro w23 (h24 : HA ⟨w, [(D, .df)]⟩ [(q16, 64, #[.string x.k, .string x.v]), (q9, 4, #[.bool false]), (q4, 33, #[iN .i64 0]), (q1, 100, #[.slice po ps.length pc, .slice do_ ds.length dc])] w23)
     refine wl_nil ?_
     refine block_normal ?_
     refine then_at (F := ⟨(.agg #[.slice po ps.length pc, .slice do_ ds.length dc] :: pt q1 :: pt q4 :: pt q9 :: un :: un :: pt q16 :: .agg (#[.slice po ps.length pc, .slice do_ ds.length dc]) :: iN .i64 (ps.length + ds.length) :: .bool ((decide (64 < ps.length + ds.length))) :: .agg (#[.slice po ps.length pc, .slice do_ ds.length dc]) :: .func (.func 102) #[.agg (#[.slice po ps.length pc, .slice do_ ds.length dc])] #[] :: un :: un :: un :: un :: un :: un :: un :: un :: un :: pt q1 :: .slice po ps.length pc :: iN .i64 ps.length :: iN .i64 k :: .bool true :: .pointer (some (pa.add (k * 2))) :: rwv x :: .bool false :: .bool false :: .pointer (some ⟨q16, 1, none⟩) :: .string x.v :: iN .i64 x.v.size :: .bool false :: .bool false :: u14 35 :: List.replicate 1 un).toArray, (mkd D)⟩) (by kernel_rfl) ?_
     refine wl_region ?_
     refine zwx (iN .i64 (k + 1)) (run_add (k := .i64) (a := k) (b := 1) (by kernel_rfl) (by kernel_rfl) (by first | omega | (simp only [top]; omega))) ?_
     refine zwv (iN .i64 (k + 1)) ?_
     refine wl_nil ?_
     exact then_I ⟨fun ii => (([(6, .pointer (some ⟨q16, 0, none⟩)), (25, .bool true), (26, .pointer (some (pa.add (k * 2)))), (27, rwv x), (28, .bool false), (29, .bool false), (30, .pointer (some ⟨q16, 1, none⟩)), (31, .string x.v), (32, iN .i64 x.v.size), (33, .bool false), (34, .bool false), (35, iN .i64 (k + 1))] : List (Nat × Value)).find? (·.1 == ii)).elim undef (·.2), by kernel_rfl, by rw [show (lng (ps.length + ds.length) (keysOf ps ds) || lngV (ps.take (k + 1))) = false by rw [lngV_take hx, ← Bool.or_assoc, ← hb, decide_eq_false hgt]; rfl]; exact h24.sub (List.Sublist.cons _ (List.Sublist.cons_cons _ (List.Sublist.cons_cons _ (List.Sublist.cons_cons _ (List.Sublist.refl _)))))⟩
   ·refine wl_region ?_
    refine zwx (.bool true) (run_load1 (fun w => Tryz.isAgg4 w) (by kernel_rfl) (((h20.get 1 rfl).cell 0).trans rfl)) ?_
    refine zwv (.bool true) ?_
    refine wl_skip (by kernel_rfl) ?_
    refine wl_skip (by kernel_rfl) ?_
    refine wl_skip (by kernel_rfl) ?_
    refine wl_skip (by kernel_rfl) ?_
    refine zwv (.bool true) ?_
    refine wl_putv (v := .bool true) h20 1 rfl 0 (by show 0 < 1; decide) (by kernel_rfl) (fun w => Tryz.sizeOf4 w) (by kernel_rfl) (by kernel_rfl) (by kernel_rfl) ?_
    intro w25 (h26 : HA ⟨w, [(D, .df)]⟩ [(q16, 64, #[.string x.k, .string x.v]), (q9, 4, #[.bool true]), (q4, 33, #[iN .i64 0]), (q1, 100, #[.slice po ps.length pc, .slice do_ ds.length dc])] w25)
    refine wl_nil ?_
    refine block_normal ?_
    refine then_at (F := ⟨(.agg #[.slice po ps.length pc, .slice do_ ds.length dc] :: pt q1 :: pt q4 :: pt q9 :: un :: un :: pt q16 :: .agg (#[.slice po ps.length pc, .slice do_ ds.length dc]) :: iN .i64 (ps.length + ds.length) :: .bool ((decide (64 < ps.length + ds.length))) :: .agg (#[.slice po ps.length pc, .slice do_ ds.length dc]) :: .func (.func 102) #[.agg (#[.slice po ps.length pc, .slice do_ ds.length dc])] #[] :: un :: un :: un :: un :: un :: un :: un :: un :: un :: pt q1 :: .slice po ps.length pc :: iN .i64 ps.length :: iN .i64 k :: .bool true :: .pointer (some (pa.add (k * 2))) :: rwv x :: .bool true :: .bool true :: un :: un :: un :: un :: .bool true :: u14 35 :: List.replicate 1 un).toArray, (mkd D)⟩) (by kernel_rfl) ?_
    refine wl_region ?_
    refine zwx (iN .i64 (k + 1)) (run_add (k := .i64) (a := k) (b := 1) (by kernel_rfl) (by kernel_rfl) (by first | omega | (simp only [top]; omega))) ?_
    refine zwv (iN .i64 (k + 1)) ?_
    refine wl_nil ?_
    exact then_I ⟨fun ii => (([(6, .pointer (some ⟨q16, 0, none⟩)), (25, .bool true), (26, .pointer (some (pa.add (k * 2)))), (27, rwv x), (28, .bool true), (29, .bool true), (30, undef), (31, undef), (32, undef), (33, undef), (34, .bool true), (35, iN .i64 (k + 1))] : List (Nat × Value)).find? (·.1 == ii)).elim undef (·.2), by kernel_rfl, by rw [show (lng (ps.length + ds.length) (keysOf ps ds) || lngV (ps.take (k + 1))) = true by rw [lngV_take hx, ← Bool.or_assoc, ← hb]; rfl]; exact h26.sub (List.Sublist.cons _ (List.Sublist.cons_cons _ (List.Sublist.cons_cons _ (List.Sublist.cons_cons _ (List.Sublist.refl _)))))⟩
  ·rintro _ w27 ⟨u14, rfl, hL⟩
   obtain ⟨b, hb⟩ : ∃ b, b = (lng (ps.length + ds.length) (keysOf ps ds) || lngV (ps.take ps.length)) := ⟨_, rfl⟩
   rw [← hb] at hL
   refine wp_seq ?_
   refine wl_region ?_
   refine zwx (.bool false) (run_lss (k := .i64) (a := ps.length) (b := ps.length) (by kernel_rfl) (by kernel_rfl) false (decide_eq_false (by omega))) ?_
   refine wl_nil ?_
   refine then_at (F := ⟨(.agg #[.slice po ps.length pc, .slice do_ ds.length dc] :: pt q1 :: pt q4 :: pt q9 :: un :: un :: u14 6 :: .agg (#[.slice po ps.length pc, .slice do_ ds.length dc]) :: iN .i64 (ps.length + ds.length) :: .bool ((decide (64 < ps.length + ds.length))) :: .agg (#[.slice po ps.length pc, .slice do_ ds.length dc]) :: .func (.func 102) #[.agg (#[.slice po ps.length pc, .slice do_ ds.length dc])] #[] :: un :: un :: un :: un :: un :: un :: un :: un :: un :: pt q1 :: .slice po ps.length pc :: iN .i64 ps.length :: iN .i64 ps.length :: .bool false :: u14 26 :: u14 27 :: u14 28 :: u14 29 :: u14 30 :: u14 31 :: u14 32 :: u14 33 :: u14 34 :: u14 35 :: List.replicate 1 un).toArray, (mkd D)⟩) (by kernel_rfl) ?_
   refine wp_seq ?_
   refine wp_cond_false (by kernel_rfl) ?_
   refine wp_exit ?_
   repeat first | refine then_exit ?_ | refine block_exit ?_ | refine block_exit_ne (by decide) ?_
   refine then_at (F := ⟨(.agg #[.slice po ps.length pc, .slice do_ ds.length dc] :: pt q1 :: pt q4 :: pt q9 :: un :: un :: u14 6 :: .agg (#[.slice po ps.length pc, .slice do_ ds.length dc]) :: iN .i64 (ps.length + ds.length) :: .bool ((decide (64 < ps.length + ds.length))) :: .agg (#[.slice po ps.length pc, .slice do_ ds.length dc]) :: .func (.func 102) #[.agg (#[.slice po ps.length pc, .slice do_ ds.length dc])] #[] :: un :: un :: un :: un :: un :: un :: un :: un :: un :: pt q1 :: .slice po ps.length pc :: iN .i64 ps.length :: iN .i64 ps.length :: .bool false :: u14 26 :: u14 27 :: u14 28 :: u14 29 :: u14 30 :: u14 31 :: u14 32 :: u14 33 :: u14 34 :: u14 35 :: List.replicate 1 un).toArray, (mkd D)⟩) (by kernel_rfl) ?_
   refine wp_seq ?_
   refine wp_seq ?_
   rw [List.take_length] at hb
   cases b
   ·refine wl_region ?_
    refine zwx (.bool false) (run_load1 (fun w => Tryz.isAgg4 w) (by kernel_rfl) (((hL.get 0 rfl).cell 0).trans rfl)) ?_
    refine wl_nil ?_
    refine then_at (F := ⟨(.agg #[.slice po ps.length pc, .slice do_ ds.length dc] :: pt q1 :: pt q4 :: pt q9 :: un :: un :: u14 6 :: .agg (#[.slice po ps.length pc, .slice do_ ds.length dc]) :: iN .i64 (ps.length + ds.length) :: .bool ((decide (64 < ps.length + ds.length))) :: .agg (#[.slice po ps.length pc, .slice do_ ds.length dc]) :: .func (.func 102) #[.agg (#[.slice po ps.length pc, .slice do_ ds.length dc])] #[] :: un :: un :: un :: un :: un :: un :: un :: un :: un :: pt q1 :: .slice po ps.length pc :: iN .i64 ps.length :: iN .i64 ps.length :: .bool false :: u14 26 :: u14 27 :: u14 28 :: u14 29 :: u14 30 :: u14 31 :: u14 32 :: u14 33 :: u14 34 :: u14 35 :: .bool false :: List.replicate 0 un).toArray, (mkd D)⟩) (by kernel_rfl) ?_
    refine wp_cond_false (by kernel_rfl) ?_
    refine wp_skip ?_
    refine then_at (F := ⟨(.agg #[.slice po ps.length pc, .slice do_ ds.length dc] :: pt q1 :: pt q4 :: pt q9 :: un :: un :: u14 6 :: .agg (#[.slice po ps.length pc, .slice do_ ds.length dc]) :: iN .i64 (ps.length + ds.length) :: .bool ((decide (64 < ps.length + ds.length))) :: .agg (#[.slice po ps.length pc, .slice do_ ds.length dc]) :: .func (.func 102) #[.agg (#[.slice po ps.length pc, .slice do_ ds.length dc])] #[] :: un :: un :: un :: un :: un :: un :: un :: un :: un :: pt q1 :: .slice po ps.length pc :: iN .i64 ps.length :: iN .i64 ps.length :: .bool false :: u14 26 :: u14 27 :: u14 28 :: u14 29 :: u14 30 :: u14 31 :: u14 32 :: u14 33 :: u14 34 :: u14 35 :: .bool false :: List.replicate 0 un).toArray, (mkd D)⟩) (by kernel_rfl) ?_
    refine wp_seq ?_
    refine wl_region ?_
    refine wl_putv (v := iN .i64 0) hL 1 rfl 0 (by show 0 < 1; decide) (by kernel_rfl) (fun w => Tryz.sizeOf33 w) (by kernel_rfl) (by kernel_rfl) (by kernel_rfl) ?_
    intro w28 (h29 : HA ⟨w, [(D, .df)]⟩ [(q9, 4, #[.bool false]), (q4, 33, #[iN .i64 0]), (q1, 100, #[.slice po ps.length pc, .slice do_ ds.length dc])] w28)
    refine wl_nil ?_
    refine then_at (F := ⟨(.agg #[.slice po ps.length pc, .slice do_ ds.length dc] :: pt q1 :: pt q4 :: pt q9 :: un :: un :: u14 6 :: .agg (#[.slice po ps.length pc, .slice do_ ds.length dc]) :: iN .i64 (ps.length + ds.length) :: .bool ((decide (64 < ps.length + ds.length))) :: .agg (#[.slice po ps.length pc, .slice do_ ds.length dc]) :: .func (.func 102) #[.agg (#[.slice po ps.length pc, .slice do_ ds.length dc])] #[] :: un :: un :: un :: un :: un :: un :: un :: un :: un :: pt q1 :: .slice po ps.length pc :: iN .i64 ps.length :: iN .i64 ps.length :: .bool false :: u14 26 :: u14 27 :: u14 28 :: u14 29 :: u14 30 :: u14 31 :: u14 32 :: u14 33 :: u14 34 :: u14 35 :: .bool false :: List.replicate 0 un).toArray, (mkd D)⟩) (by kernel_rfl) ?_
    refine wp_ret ?_
    repeat first | refine then_ret ?_ | refine block_ret ?_
    exact leaves_df h29 (fun w9 h9 => ⟨iN .i64 0, res_one (p := 2) (by kernel_rfl) (by kernel_rfl) (fun w => Tryz.isAgg33 w) ((h9.get 1 rfl).cell 0), by rw [refR, if_neg hno, if_neg (by rw [← hb]; decide)], h9.old.old⟩)
   ·refine wl_region ?_
    refine zwx (.bool true) (run_load1 (fun w => Tryz.isAgg4 w) (by kernel_rfl) (((hL.get 0 rfl).cell 0).trans rfl)) ?_
    refine wl_nil ?_
    refine then_at (F := ⟨(.agg #[.slice po ps.length pc, .slice do_ ds.length dc] :: pt q1 :: pt q4 :: pt q9 :: un :: un :: u14 6 :: .agg (#[.slice po ps.length pc, .slice do_ ds.length dc]) :: iN .i64 (ps.length + ds.length) :: .bool ((decide (64 < ps.length + ds.length))) :: .agg (#[.slice po ps.length pc, .slice do_ ds.length dc]) :: .func (.func 102) #[.agg (#[.slice po ps.length pc, .slice do_ ds.length dc])] #[] :: un :: un :: un :: un :: un :: un :: un :: un :: un :: pt q1 :: .slice po ps.length pc :: iN .i64 ps.length :: iN .i64 ps.length :: .bool false :: u14 26 :: u14 27 :: u14 28 :: u14 29 :: u14 30 :: u14 31 :: u14 32 :: u14 33 :: u14 34 :: u14 35 :: .bool true :: List.replicate 0 un).toArray, (mkd D)⟩) (by kernel_rfl) ?_
    refine wp_cond_true (by kernel_rfl) ?_
    refine wp_seq ?_
    refine wl_region ?_
    refine wl_putv (v := iN .i64 3) hL 1 rfl 0 (by show 0 < 1; decide) (by kernel_rfl) (fun w => Tryz.sizeOf33 w) (by kernel_rfl) (by kernel_rfl) (by kernel_rfl) ?_
    intro w30 (h31 : HA ⟨w, [(D, .df)]⟩ [(q9, 4, #[.bool true]), (q4, 33, #[iN .i64 3]), (q1, 100, #[.slice po ps.length pc, .slice do_ ds.length dc])] w30)
    refine wl_nil ?_
    refine then_at (F := ⟨(.agg #[.slice po ps.length pc, .slice do_ ds.length dc] :: pt q1 :: pt q4 :: pt q9 :: un :: un :: u14 6 :: .agg (#[.slice po ps.length pc, .slice do_ ds.length dc]) :: iN .i64 (ps.length + ds.length) :: .bool ((decide (64 < ps.length + ds.length))) :: .agg (#[.slice po ps.length pc, .slice do_ ds.length dc]) :: .func (.func 102) #[.agg (#[.slice po ps.length pc, .slice do_ ds.length dc])] #[] :: un :: un :: un :: un :: un :: un :: un :: un :: un :: pt q1 :: .slice po ps.length pc :: iN .i64 ps.length :: iN .i64 ps.length :: .bool false :: u14 26 :: u14 27 :: u14 28 :: u14 29 :: u14 30 :: u14 31 :: u14 32 :: u14 33 :: u14 34 :: u14 35 :: .bool true :: List.replicate 0 un).toArray, (mkd D)⟩) (by kernel_rfl) ?_
    refine wp_ret ?_
    repeat first | refine then_ret ?_ | refine block_ret ?_
    exact leaves_df h31 (fun w9 h9 => ⟨iN .i64 3, res_one (p := 2) (by kernel_rfl) (by kernel_rfl) (fun w => Tryz.isAgg33 w) ((h9.get 1 rfl).cell 0), by rw [refR, if_neg hno, if_pos hb.symm], h9.old.old⟩)
 ·rintro D pre W hD ⟨hH, hany⟩ hdf
  have hm := hH.mark (Nat.le_trans h13.old.old.size hD) hdf
  refine wpIn_wide.2 (wp_ret ?_)
  repeat first | refine then_ret ?_ | refine block_ret ?_
  exact leaves_df hm (fun w9 h9 => ⟨iN .i64 2, res_one (p := 2) (by kernel_rfl) (by kernel_rfl) (fun w => Tryz.isAgg33 w) ((h9.get 1 rfl).cell 0), by rw [refR, if_pos hany], h9.old.old⟩)
end Go.Proofs.YtckmlaempffpjaaGreat
