/-
 The program's table and the reference's are one.
-/
import Derived.Test.YtihfeoanognonaaGreatG3
import Derived.Test.YtihfeoanognonaaGreatT21
import Derived.Test.YtihfeoanognonaaGreatTU
namespace Go.Proofs.YtihfeoanognonaaGreat
open Go.RowKit
def trm : Ent → Q4
 | .nm n => ⟨1, n, { data := #[] }, []⟩
 | .dt s => ⟨2, 0, s, []⟩
 | .mk k n s ps _ => ⟨k, n, s, ps⟩
structure Iv (es : List Ent) : Prop where
 wf : Wf es
 kk : ∀ k n s ps b, Ent.mk k n s ps b ∈ es → 3 ≤ k
 nn : ∀ n, Ent.nm n ∈ es → n < nms es
 wg : Wg es
 dd : ∀ s, Ent.dt s ∈ es → s.size ≤ 1000000
 ll : ∀ k n s ps b, Ent.mk k n s ps b ∈ es → s.size ≤ 1000000
theorem idx_cons (a : Q4) (l : List Q4) (x : Q4) : (a :: l).idxOf? x = if a = x then some 0 else (l.idxOf? x).map (· + 1) := by
 rw [List.idxOf?_cons]
 by_cases h : a = x
 ·simp [h]
 ·rw [if_neg h, if_neg (by simpa using h)]
theorem map_add1 (o : Option Nat) (i : Nat) : (o.map (· + 1)).map (· + i) = o.map (· + (i + 1)) := by
 cases o with
 | none => rfl
 | some a => simp only [Option.map_some]; congr 1; omega
theorem lkT_idx (s : ByteArray) : ∀ (es : List Ent) (i : Nat), (∀ k n s ps b, Ent.mk k n s ps b ∈ es → 3 ≤ k) → lkT (dts es i) s = ((es.map trm).idxOf? ⟨2, 0, s, []⟩).map (· + i)
 | [], _, _ => rfl
 | e :: es, i, h => by
  have ih := lkT_idx s es (i + 1) (fun k n s ps b hm => h k n s ps b (List.mem_cons_of_mem _ hm))
  rw [List.map_cons, idx_cons]
  cases e with
  | nm n =>
   rw [if_neg (by simp [trm]), map_add1, ← ih]; rfl
  | mk k n t ps b =>
   have hk := h k n t ps b (List.mem_cons_self ..)
   rw [if_neg (by simp only [trm, Q4.mk.injEq]; omega), map_add1, ← ih]; rfl
  | dt t =>
   by_cases e : t = s
   ·subst e
    rw [if_pos (show trm (.dt t) = (⟨2, 0, t, []⟩ : Q4) from rfl)]
    simp [dts, lkT]
   ·rw [if_neg (by simp only [trm, Q4.mk.injEq]; exact fun h => e h.2.2.1), map_add1, ← ih]
    simp [dts, lkT, e]
theorem of8 {a b : Nat} (h : UInt8.ofNat a = UInt8.ofNat b) : a % 256 = b % 256 := by
 have := congrArg UInt8.toNat h
 simpa using this
theorem p4_inj {a b : Nat} (ha : a < 4294967296) (hb : b < 4294967296) (h : p4 ByteArray.empty a = p4 ByteArray.empty b) : a = b := by
 have hb0 : bl ByteArray.empty = [] := rfl
 unfold p4 at h
 rw [hb0] at h
 simp only [List.nil_append, List.cons_append, List.cons.injEq] at h
 have h1 := of8 h.1
 have h2 := of8 h.2.1
 have h3 := of8 h.2.2.1
 have h4 := of8 h.2.2.2.1
 omega
theorem laidL_inj : ∀ (a b : List Nat), (∀ x ∈ a, x < 4294967296) → (∀ x ∈ b, x < 4294967296) → laidL a = laidL b → a = b
 | [], [], _, _, _ => rfl
 | [], y :: b, _, _, h => by
  have := congrArg List.length h
  have e := p4_len ByteArray.empty y
  simp only [laidL, List.flatMap_nil, List.flatMap_cons, List.length_nil, List.length_append] at this
  omega
 | x :: a, [], _, _, h => by
  have := congrArg List.length h
  have e := p4_len ByteArray.empty x
  simp only [laidL, List.flatMap_nil, List.flatMap_cons, List.length_nil, List.length_append] at this
  omega
 | x :: a, y :: b, ha, hb, h => by
  simp only [laidL, List.flatMap_cons] at h
  have hl : (p4 ByteArray.empty x).length = (p4 ByteArray.empty y).length := by rw [p4_len, p4_len]
  obtain ⟨h1, h2⟩ := List.append_inj h hl
  rw [p4_inj (ha x (List.mem_cons_self ..)) (hb y (List.mem_cons_self ..)) h1, laidL_inj a b (fun z hz => ha z (List.mem_cons_of_mem _ hz)) (fun z hz => hb z (List.mem_cons_of_mem _ hz)) h2]
theorem recOf_iff {k n k' n' : Nat} {s s' : ByteArray} {ps ps' : List Nat} (h : ∀ x ∈ ps, x < 4294967296) (h' : ∀ x ∈ ps', x < 4294967296) : recOf k n s ps = recOf k' n' s' ps' ↔ (⟨k, n, s, ps⟩ : Q4) = ⟨k', n', s', ps'⟩ := by
 constructor
 ·intro e
  simp only [recOf, Rec.mk.injEq, laid] at e
  have := laidL_inj ps ps' h h' (by have := e.2.2.2; simpa using this)
  rw [e.1, e.2.1, e.2.2.1, this]
 ·intro e
  simp only [Q4.mk.injEq] at e
  rw [e.1, e.2.1, e.2.2.1, e.2.2.2]
theorem all_lt {ps : List Nat} (h : ∀ j, ps.getD j 0 < 60000) : ∀ x ∈ ps, x < 4294967296 := fun x hx => by
 obtain ⟨j, hj, rfl⟩ := List.getElem_of_mem hx
 have := h j
 rw [List.getD_eq_getElem?_getD, List.getElem?_eq_getElem hj] at this
 simp only [Option.getD_some] at this
 omega
theorem lkR_idx (k n : Nat) (s : ByteArray) (ps : List Nat) (hk : 3 ≤ k) (hps : ∀ x ∈ ps, x < 4294967296) : ∀ (es : List Ent) (i : Nat), (∀ k n s ps b, Ent.mk k n s ps b ∈ es → ∀ x ∈ ps, x < 4294967296) → lkR (mks es i) (recOf k n s ps) = ((es.map trm).idxOf? ⟨k, n, s, ps⟩).map (· + i)
 | [], _, _ => rfl
 | e :: es, i, h => by
  have ih := lkR_idx k n s ps hk hps es (i + 1) (fun k n s ps b hm => h k n s ps b (List.mem_cons_of_mem _ hm))
  rw [List.map_cons, idx_cons]
  cases e with
  | nm m =>
   rw [if_neg (by simp only [trm, Q4.mk.injEq]; omega), map_add1, ← ih]; rfl
  | dt t =>
   rw [if_neg (by simp only [trm, Q4.mk.injEq]; omega), map_add1, ← ih]; rfl
  | mk k' n' s' ps' b =>
   have hp' := h k' n' s' ps' b (List.mem_cons_self ..)
   by_cases e : recOf k' n' s' ps' = recOf k n s ps
   ·rw [if_pos (show trm (.mk k' n' s' ps' b) = _ from (recOf_iff hp' hps).1 e)]
    simp [mks, lkR, e]
   ·rw [if_neg (fun h : trm (.mk k' n' s' ps' b) = _ => e ((recOf_iff hp' hps).2 h)), map_add1, ← ih]
    simp [mks, lkR, e]
theorem Wf.mem {es : List Ent} (h : Wf es) {k n : Nat} {s : ByteArray} {ps : List Nat} {b : Nat} (hm : Ent.mk k n s ps b ∈ es) : ∀ x ∈ ps, x < 4294967296 := by
 obtain ⟨i, hi, he⟩ := List.getElem_of_mem hm
 exact all_lt (h.lt i k n s ps b (by rw [List.getElem?_eq_getElem hi, he]))
theorem add0 (o : Option Nat) : o.map (· + 0) = o := by cases o <;> rfl
/-! a part -/
theorem rp_same {es : List Ent} (h : Iv es) (s : ByteArray) : rpL (es.map trm) s = (partF es s).1.map trm ∧ rpN (es.map trm) s = (partF es s).2 := by
 have e := lkT_idx s es 0 h.kk
 rw [add0] at e
 unfold rpL rpN partF putL putN
 rw [List.length_map, e]
 cases numT es.length s with
 | some x => exact ⟨rfl, rfl⟩
 | none =>
  cases (es.map trm).idxOf? ⟨2, 0, s, []⟩ with
  | some x => exact ⟨rfl, rfl⟩
  | none => exact ⟨by simp [trm], rfl⟩
theorem Iv.app {es : List Ent} (h : Iv es) (e : Ent) (hw : Wf (es ++ [e])) (hk : ∀ k n s ps b, e = .mk k n s ps b → 3 ≤ k) (hn : ∀ n, e = .nm n → n < nms (es ++ [e])) (hg : Wg (es ++ [e])) (hd : ∀ s, e = .dt s → s.size ≤ 1000000) (hb : ∀ k n s ps b, e = .mk k n s ps b → s.size ≤ 1000000) : Iv (es ++ [e]) :=
 ⟨hw, fun k n s ps b hm => (List.mem_append.1 hm).elim (h.kk k n s ps b) (fun hm => hk k n s ps b (List.mem_singleton.1 hm).symm), fun n hm => (List.mem_append.1 hm).elim (fun hm => by have := h.nn n hm; rw [nms_snoc]; omega) (fun hm => hn n (List.mem_singleton.1 hm).symm), hg, fun s hm => (List.mem_append.1 hm).elim (h.dd s) (fun hm => hd s (List.mem_singleton.1 hm).symm), fun k n s ps b hm => (List.mem_append.1 hm).elim (h.ll k n s ps b) (fun hm => hb k n s ps b (List.mem_singleton.1 hm).symm)⟩
theorem Iv.nil : Iv [] := ⟨Wf.nil, (fun _ _ _ _ _ h => by cases h), (fun _ h => by cases h), Wg.nil, (fun _ h => by cases h), (fun _ _ _ _ _ h => by cases h)⟩
theorem Iv.part {es : List Ent} (h : Iv es) (s : ByteArray) (hs : s.size ≤ 1000000) (hl : es.length < 60000) : Iv (partF es s).1 := by
 have hw := h.wf.part s hl
 have hg := h.wg.part s
 unfold partF at hw hg ⊢
 cases hn : numT es.length s with
 | some x => exact h
 | none =>
  rw [hn] at hw hg
  cases ht : lkT (dts es 0) s with
  | some x => exact h
  | none =>
   rw [ht] at hw hg
   exact h.app _ hw (fun _ _ _ _ _ e => by cases e) (fun _ e => by cases e) hg (fun _ e => by cases e; exact hs) (fun _ _ _ _ _ e => by cases e)
/-! a name -/
theorem rnm_same : ∀ (es : List Ent), (∀ k n s ps b, Ent.mk k n s ps b ∈ es → 3 ≤ k) → rnm (es.map trm) = nms es
 | [], _ => rfl
 | e :: es, h => by
  have ih := rnm_same es (fun k n s ps b hm => h k n s ps b (List.mem_cons_of_mem _ hm))
  unfold rnm at ih ⊢
  rw [List.map_cons, List.filter_cons]
  cases e with
  | nm n => simp only [trm, decide_true, if_true, List.length_cons, ih, nms]
  | dt s => rw [if_neg (by simp [trm])]; exact ih
  | mk k n s ps b =>
   have := h k n s ps b (List.mem_cons_self ..)
   have hne : ¬ (trm (.mk k n s ps b)).k = 1 := by show ¬ k = 1; omega
   rw [if_neg (by simpa using hne)]; exact ih
theorem fr_same {es : List Ent} (h : Iv es) : putL (es.map trm) (frX (es.map trm)) = (es ++ [Ent.nm (nms es)]).map trm ∧ putN (es.map trm) (frX (es.map trm)) = es.length := by
 have e : frX (es.map trm) = trm (.nm (nms es)) := by unfold frX; rw [rnm_same es h.kk]; rfl
 have hi : (es.map trm).idxOf? (frX (es.map trm)) = none := by
  rw [e]
  refine idxOf_none fun j hj hx => ?_
  rw [List.getElem_map] at hx
  have hj' : j < es.length := by simpa using hj
  have hm : es[j] ∈ es := List.getElem_mem hj'
  cases he : es[j] with
  | nm n =>
   rw [he] at hx hm
   have := h.nn n hm
   simp only [trm, Q4.mk.injEq] at hx
   omega
  | dt s => rw [he] at hx; simp [trm] at hx
  | mk k n s ps b =>
   rw [he] at hx hm
   have := h.kk k n s ps b hm
   simp only [trm, Q4.mk.injEq] at hx
   omega
 unfold putL putN
 rw [hi]
 refine ⟨?_, by simp⟩
 rw [List.map_append, e]; rfl
theorem Iv.nm {es : List Ent} (h : Iv es) (hl : es.length < 60000) : Iv (es ++ [.nm (nms es)]) :=
 h.app _ (h.wf.nm _ hl) (fun _ _ _ _ _ e => by cases e) (fun n e => by cases e; rw [nms_snoc]; simp [nms]) (h.wg.nm _) (fun _ e => by cases e) (fun _ _ _ _ _ e => by cases e)
/-! something made -/
def rfL (l : List Q4) (ss : List ByteArray) : Nat → List Q4
 | 0 => l
 | k + 1 => rpL (rfL l ss k) (ss.getD k ByteArray.empty)
def rfN (l : List Q4) (ss : List ByteArray) : Nat → List Nat
 | 0 => []
 | k + 1 => rfN l ss k ++ [rpN (rfL l ss k) (ss.getD k ByteArray.empty)]
theorem rfN_len (l : List Q4) (ss : List ByteArray) : ∀ k, (rfN l ss k).length = k
 | 0 => rfl
 | k + 1 => by simp [rfN, rfN_len l ss k]
theorem Iv.parts {es : List Ent} (h : Iv es) (ss : List ByteArray) (hss : ∀ i, (ss.getD i ByteArray.empty).size ≤ 1000000) : ∀ k, es.length + k ≤ 60000 → Iv (pfE es ss k)
 | 0, _ => h
 | k + 1, hk => by
  have := pfE_len es ss k
  exact (Iv.parts h ss hss k (by omega)).part _ (hss k) (by omega)
theorem rf_same {es : List Ent} (h : Iv es) (ss : List ByteArray) (hss : ∀ i, (ss.getD i ByteArray.empty).size ≤ 1000000) : ∀ k, es.length + k ≤ 60000 → rfL (es.map trm) ss k = (pfE es ss k).map trm ∧ rfN (es.map trm) ss k = pfN es ss k
 | 0, _ => ⟨rfl, rfl⟩
 | k + 1, hk => by
  obtain ⟨h1, h2⟩ := rf_same h ss hss k (by omega)
  obtain ⟨h3, h4⟩ := rp_same (h.parts ss hss k (by omega)) (ss.getD k ByteArray.empty)
  exact ⟨by rw [rfL, h1, h3]; rfl, by rw [rfN, h2, h1, h4]; rfl⟩
def rmN (l : List Q4) (k : Nat) (ns : List Nat) : Nat := if k = 4 then (match l[ns.getD 1 0]? with | some q => if q.k = 3 then 0 else 1 | none => 1) else 0
def rmP (l : List Q4) (k : Nat) (ns : List Nat) : List Nat := if k = 4 then (match l[ns.getD 1 0]? with | some q => if q.k = 3 then [min (ns.getD 0 0) (q.ps.getD 0 0), max (ns.getD 0 0) (q.ps.getD 0 0)] else ns | none => ns) else ns
def rmX (l : List Q4) (k : Nat) (label : ByteArray) (ns : List Nat) : Q4 := ⟨k, rmN l k ns, label, rmP l k ns⟩
theorem two_of {ns : List Nat} (h : ns.length = 2) : [ns.getD 0 0, ns.getD 1 0] = ns := by
 match ns, h with
 | [a, b], _ => rfl
theorem rm_same {es : List Ent} (k : Nat) (label : ByteArray) (ns : List Nat) (i2 : k = 4 → ns.length = 2) (hlab : k = 4 → label = { data := #[] }) : rmX (es.map trm) k label ns = ⟨k, joinN es k ns, joinS k label, joinP es k ns⟩ := by
 unfold rmX rmN rmP joinN joinS joinP
 by_cases h4 : k = 4
 ·rw [if_pos h4, if_pos h4, if_pos h4, if_pos h4, if_pos h4, hlab h4]
  unfold dhN dhP secT
  rw [List.getElem?_map]
  have h2 : ns = [ns[0]?.getD 0, ns[1]?.getD 0] := by have := two_of (i2 h4); simpa using this.symm
  cases he : es[ns.getD 1 0]? with
  | none => simpa using h2
  | some e =>
   cases e with
   | nm n => simpa [trm] using h2
   | dt s => simpa [trm] using h2
   | mk k' n' s' ps' b' =>
    by_cases h3 : k' = 3
    ·subst h3; simp [trm]
    ·simpa [trm, h3] using h2
 ·rw [if_neg h4, if_neg h4, if_neg h4, if_neg h4, if_neg h4]
theorem mk_same {es es' : List Ent} (h : Iv es) {k x : Nat} {label : ByteArray} {ss : List ByteArray} (hJ : JO es k label ss x es') (hl : es.length + ss.length < 60000) (hs : ss.length ≤ 100) (hss : ∀ i, (ss.getD i ByteArray.empty).size ≤ 1000000) (h3 : 3 ≤ k) (h1 : k = 3 → ss.length = 1) (h2 : k = 4 → ss.length = 2) (hlab : k = 4 → label = { data := #[] }) (h6 : k = 6 → ss.length = 4) (h7 : k = 7 → ss.length = 2) (hls : label.size ≤ 1000000) :
  putL (rfL (es.map trm) ss ss.length) (rmX (rfL (es.map trm) ss ss.length) k label (rfN (es.map trm) ss ss.length)) = es'.map trm ∧ putN (rfL (es.map trm) ss ss.length) (rmX (rfL (es.map trm) ss ss.length) k label (rfN (es.map trm) ss ss.length)) = x ∧ Iv es' := by
 obtain ⟨e1, e2⟩ := rf_same h ss hss ss.length (by omega)
 have hI := h.parts ss hss ss.length (by omega)
 have hns := pfN_lt es ss ss.length
 have hpl := pfE_len es ss ss.length
 rw [e1, e2, rm_same k label _ (fun h4 => by rw [pfN_len]; exact h2 h4) hlab]
 have hok := joinP_ok hI.wf k (pfN es ss ss.length) hns (by rw [pfN_len]; exact hs) (fun e => by rw [pfN_len]; exact h1 e)
 have e3 := lkR_idx k (joinN (pfE es ss ss.length) k (pfN es ss ss.length)) (joinS k label) (joinP (pfE es ss ss.length) k (pfN es ss ss.length)) h3 (all_lt hok.1) (pfE es ss ss.length) 0 (fun _ _ _ _ _ hm => hI.wf.mem hm)
 rw [add0] at e3
 unfold putL putN
 have hw := JO.wf h.wf hJ hl hs h1
 have hg := JO.wg h.wg h.wf hJ hl h2 h6 h7
 rcases hJ with ⟨hJ, rfl⟩ | ⟨hJ, rfl, b, rfl⟩
 ·unfold lkJ at hJ
  rw [hJ] at e3
  rw [← e3]
  exact ⟨rfl, rfl, hI⟩
 ·unfold lkJ at hJ
  rw [hJ] at e3
  rw [← e3]
  refine ⟨by simp [trm], by simp, hI.app _ hw (fun _ _ _ _ _ e => by cases e; exact h3) (fun _ e => by cases e) hg (fun _ e => by cases e) (fun _ _ _ _ _ e => by cases e; unfold joinS; split <;> first | exact hls | decide)⟩
end Go.Proofs.YtihfeoanognonaaGreat
