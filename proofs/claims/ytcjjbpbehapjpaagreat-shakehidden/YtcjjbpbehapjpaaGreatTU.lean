/-
  What the web is laid of; a drawn region whose second change is a call; one that makes three blocks.
-/
import Derived.Test.YtcjjbpbehapjpaaGreatT14
namespace Go.Proofs.YtcjjbpbehapjpaaGreat
open Go.RowKit

section
variable {ops : Array Oper} {Q : Exit → Act → World → Prop} {F : (Nat → Nat) → Act} {i i0 i1 : Nat} {dst : Option Tmp} {T ty : TypeId} {pos : String} {aft : Array Edge} {gd : Option (Nat × Bool)}
  {R P0 : World → Prop} {P1 P2 : Nat → World → Prop} {pre : Nat → List Nat}
theorem g2_call1 {f : FuncId} {xs : Array Operand} {ats : Array TypeId} {v : Value} {args : (Nat → Nat) → Array Value} (h10 : ∀ d, Cl pre d → (∀ m ∈ pre i1, d m = true) → d i0 = true) (he : ahead aft (pre i1) = true)
    (hw : ∀ g, Region.wanted ⟨dst, .call { callee := .value (.func f), args := xs, argTypes := ats }, ty, pos, aft, gd⟩ (yielded ops (F g).tmps) = true) (hp : ∀ g, (F g).put dst v = F g)
    (hr : ∀ args w, (callFunc f args).run Tryz.prog w = .ok (.enter f args) w) (ha : ∀ g, #[] ++ xs.map (F g).eval ++ #[] = args g)
    (hc : ∀ g w, R w → P1 (g i0) w → Calls Tryz.prog f (args g) w fun e w' => e = .returned v ∧ R w' ∧ P2 (g i0) w') : OpGhost Tryz.prog .any ops Q (G2 R P0 P1 P2 pre i0 i1) F i1 ⟨dst, .call { callee := .value (.func f), args := xs, argTypes := ats }, ty, pos, aft, gd⟩ := fun g d w h hdi haft => by
  rw [if_pos (hw g)]
  unfold Oper.wp
  have e1 : ¬ d i1 = true := by rw [hdi]; decide
  have e0 : d i0 = true := h10 d h.seen (ahead_ok he haft)
  have hH := h.held
  rw [if_neg e1, if_pos e0] at hH
  rw [execOp_call_go, ha g, hr]
  refine (hc g w h.all hH).mono ?_
  rintro e w' ⟨rfl, hR, hP⟩
  exact ⟨g i1, by rw [up_self]; exact hp g, by rw [up_self]; exact ⟨hR, by rw [up_at, if_pos rfl]; exact hP, h.seen.up (ahead_ok he haft)⟩⟩
end
theorem WH.ha {z : Base} {b : Wb} {m : Nat} {st : St} {L : BL} {w : World} (h : WH z b m st L w) : HA z L w := by
  obtain ⟨rv, nv, avs, Lr, Ln, La, _, _, _, H⟩ := h
  exact H.sub (List.Sublist.cons _ (List.Sublist.cons _ (List.Sublist.cons _ (List.Sublist.trans (List.Sublist.trans (List.sublist_append_right La L) (List.sublist_append_right Ln _)) (List.sublist_append_right Lr _)))))
theorem WH.sub {z : Base} {b : Wb} {m : Nat} {st : St} {L L' : BL} {w : World} (h : WH z b m st L w) (hs : L'.Sublist L) : WH z b m st L' w := by
  obtain ⟨rv, nv, avs, Lr, Ln, La, h1, h2, h3, H⟩ := h
  exact ⟨rv, nv, avs, Lr, Ln, La, h1, h2, h3, H.sub (List.Sublist.cons_cons _ (List.Sublist.cons_cons _ (List.Sublist.cons_cons _ (List.Sublist.append (List.Sublist.refl _) (List.Sublist.append (List.Sublist.refl _) (List.Sublist.append (List.Sublist.refl _) hs))))))⟩
theorem perm_in (a b c e : Nat × TypeId × Array Value) (A B C D : BL) : (e :: (a :: b :: c :: (A ++ (B ++ (C ++ D))))).Perm (a :: b :: c :: (A ++ (B ++ (C ++ (e :: D))))) := by
  have := List.perm_middle (a := e) (l₁ := a :: b :: c :: (A ++ (B ++ C))) (l₂ := D)
  simpa using this.symm
theorem WH.add {z : Base} {b : Wb} {m : Nat} {st : St} {L : BL} {w w' : World} {q : Nat} {t : TypeId} {c : Array Value} (h : WH z b m st L w) (hb : Below w.heap.size w w') (h1 : w.heap.size ≤ q) (h2 : Blk w' q t c) : WH z b m st ((q, t, c) :: L) w' := by
  obtain ⟨rv, nv, avs, Lr, Ln, La, k1, k2, k3, H⟩ := h
  exact ⟨rv, nv, avs, Lr, Ln, La, k1, k2, k3, (HA.addNew H hb h1 h2).perm (perm_in _ _ _ _ _ _ _ _)⟩
theorem WH.make {z : Base} {b : Wb} {m : Nat} {st : St} {L : BL} {w : World} (h : WH z b m st L w) (t : TypeId) (c : Array Value) : WH z b m st ((w.heap.size, t, c) :: L) (w.alloc (.cells c t)) :=
  h.add ((Below.refl _ w).alloc (Nat.le_refl _) _) (Nat.le_refl _) (Blk.new w t c)
theorem wl_makeW {ops : Array Oper} {Q : Exit → Act → World → Prop} {a : Act} {rest : List Oper} {w : World} {z : Base} {b : Wb} {m : Nat} {st : St} {L : BL} {o : Oper} {c : Array Value} (H : WH z b m st L w) (ty : TypeId) (hw : Region.wanted o (yielded ops a.tmps) = true) (hr : (execOp a.eval o).run Tryz.prog w = .ok (.value (.pointer (some ⟨w.heap.size, 0, none⟩))) (w.alloc (.cells c ty)))
    (h : ∀ q w', WH z b m st ((q, ty, c) :: L) w' → WL Tryz.prog ops Q rest (a.put o.dst (.pointer (some ⟨q, 0, none⟩))) w') : WL Tryz.prog ops Q (o :: rest) a w := wl_any hw hr (h _ _ (H.make ty c))
theorem wl_mksW {ops : Array Oper} {Q : Exit → Act → World → Prop} {a : Act} {rest : List Oper} {w : World} {z : Base} {b : Wb} {m : Nat} {st : St} {L : BL} {o : Oper} {n k : Nat} {c : Array Value} (H : WH z b m st L w) (ty : TypeId) (hw : Region.wanted o (yielded ops a.tmps) = true) (hr : (execOp a.eval o).run Tryz.prog w = .ok (.value (.slice (some ⟨w.heap.size, 0, none⟩) n k)) (w.alloc (.cells c ty)))
    (h : ∀ q w', WH z b m st ((q, ty, c) :: L) w' → WL Tryz.prog ops Q rest (a.put o.dst (.slice (some ⟨q, 0, none⟩) n k)) w') : WL Tryz.prog ops Q (o :: rest) a w := wl_any hw hr (h _ _ (H.make ty c))
theorem wl_fillW {ops : Array Oper} {Q : Exit → Act → World → Prop} {a : Act} {rest : List Oper} {dst : Option Tmp} {ty ty' t : TypeId} {pos : String} {aft : Array Edge} {gd : Option (Nat × Bool)} {w : World} {z : Base} {b : Wb} {m : Nat} {st : St} {L : BL} {x y : Operand} {q : Nat} {c c' : Array Value} (H : WH z b m st ((q, t, c) :: L) w) (hw : Region.wanted ⟨dst, .store ty x y, ty', pos, aft, gd⟩ (yielded ops a.tmps) = true)
    (hx : a.eval x = .pointer (some ⟨q, 0, none⟩)) (hy : a.eval y = .agg c') (hs : c'.size = c.size) (hz : (Tryz.prog.info? ty).map (·.size) = some c'.size) (h1 : c'.all (·.oneCell') = true)
    (h : ∀ w', WH z b m st ((q, t, c') :: L) w' → WL Tryz.prog ops Q rest (a.put dst undef) w') : WL Tryz.prog ops Q (⟨dst, .store ty x y, ty', pos, aft, gd⟩ :: rest) a w := by
  obtain ⟨rv, nv, avs, Lr, Ln, La, k1, k2, k3, HH⟩ := H
  have H1 := HH.perm (perm_in _ _ _ _ _ _ _ _).symm
  exact wl_anyS hw (run_store_blk hx hy (H1.get 0 rfl) hs hz h1) (h _ ⟨rv, nv, avs, Lr, Ln, La, k1, k2, k3, (H1.fill (c' := c') 0 rfl hs).perm (perm_in _ _ _ _ _ _ _ _)⟩)
/-! what is laid -/
def pubT (es : List Ent) (x : Nat) : Option Nat := lkR (mks es 0) (recOf 3 0 { data := #[] } [x])
def halfS (es : List Ent) (st : St) (x a o : Nat) : St := match pubT es o with | some p => ruleS st x [a, p] | none => st
def madeS (es : List Ent) (st : St) (x k n : Nat) (ps : List Nat) : St :=
  if k = 4 then (if n = 0 then halfS es (halfS es (ruleS st x ps) x (ps.getD 0 0) (ps.getD 1 0)) x (ps.getD 1 0) (ps.getD 0 0) else ruleS st x ps)
  else if k = 6 then ruleS (ruleS st x ps) (ps.getD 3 0) [x, ps.getD 0 0]
  else if k = 7 then ruleS (ruleS st x ps) (ps.getD 1 0) [x] else ruleS st x ps
def layS (es : List Ent) (st : St) (x : Nat) : Ent → St
  | .nm _ => st
  | .dt s => (wth es.length s).foldl (fun st y => ruleS st y [x]) (ruleS st x (wth es.length s))
  | .mk k n _ ps _ => madeS es st x k n ps
/-- what every table has besides -/
structure Wg (es : List Ent) : Prop where
  lt : ∀ (i : Nat) k n s ps b, es[i]? = some (Ent.mk k n s ps b) → ∀ x ∈ ps, x < es.length
  two : ∀ (i : Nat) n s ps b, es[i]? = some (Ent.mk 4 n s ps b) → ps.length = 2
  four : ∀ (i : Nat) n s ps b, es[i]? = some (Ent.mk 6 n s ps b) → ps.length = 4
  sig : ∀ (i : Nat) n s ps b, es[i]? = some (Ent.mk 7 n s ps b) → ps.length = 2
theorem Wg.nil : Wg [] := ⟨fun i _ _ _ _ _ h => by simp at h, fun i _ _ _ _ h => by simp at h, fun i _ _ _ _ h => by simp at h, fun i _ _ _ _ h => by simp at h⟩
theorem Wg.app {es : List Ent} (h : Wg es) (e : Ent) (h1 : ∀ k n s ps b, e = .mk k n s ps b → (∀ x ∈ ps, x < es.length) ∧ (k = 4 → ps.length = 2) ∧ (k = 6 → ps.length = 4) ∧ (k = 7 → ps.length = 2)) : Wg (es ++ [e]) := by
  have key : ∀ (i : Nat) x, (es ++ [e])[i]? = some x → es[i]? = some x ∨ x = e := fun i x hx => by
    rcases Nat.lt_or_ge i es.length with hi | hi
    · rw [List.getElem?_append_left hi] at hx; exact .inl hx
    · rw [List.getElem?_append_right hi] at hx
      cases hj : i - es.length with
      | zero => rw [hj] at hx; exact .inr (Option.some.inj hx).symm
      | succ j => rw [hj] at hx; cases hx
  refine ⟨fun i k n s ps b hi x hx => ?_, fun i n s ps b hi => ?_, fun i n s ps b hi => ?_, fun i n s ps b hi => ?_⟩
  · rw [List.length_append, List.length_singleton]
    rcases key i _ hi with h' | h'
    · have := h.lt i k n s ps b h' x hx; omega
    · have := (h1 k n s ps b h'.symm).1 x hx; omega
  · rcases key i _ hi with h' | h'
    · exact h.two i n s ps b h'
    · exact (h1 4 n s ps b h'.symm).2.1 rfl
  · rcases key i _ hi with h' | h'
    · exact h.four i n s ps b h'
    · exact (h1 6 n s ps b h'.symm).2.2.1 rfl
  · rcases key i _ hi with h' | h'
    · exact h.sig i n s ps b h'
    · exact (h1 7 n s ps b h'.symm).2.2.2 rfl
theorem Wg.nm {es : List Ent} (h : Wg es) (n : Nat) : Wg (es ++ [.nm n]) := h.app _ (fun _ _ _ _ _ h => by cases h)
theorem Wg.part {es : List Ent} (h : Wg es) (s : ByteArray) : Wg (partF es s).1 := by
  unfold partF
  split
  · exact h
  · split
    · exact h
    · exact h.app _ (fun _ _ _ _ _ h => by cases h)
theorem Wg.parts {es : List Ent} (h : Wg es) (ss : List ByteArray) : ∀ k, Wg (pfE es ss k)
  | 0 => h
  | k + 1 => (h.parts ss k).part _
theorem secT_lt {es : List Ent} (h : Wg es) (h' : Wf es) {p b : Nat} (hb : secT es p = some b) : b < es.length := by
  unfold secT at hb
  split at hb
  · rename_i k n s ps c he
    split at hb
    · rename_i hk
      subst hk
      obtain rfl := Option.some.inj hb
      have hl := h'.one p n s ps c he
      refine h.lt p 3 n s ps c he _ ?_
      rw [List.getD_eq_getElem?_getD, List.getElem?_eq_getElem (by omega)]
      exact List.getElem_mem _
    · cases hb
  · cases hb
theorem JO.wg {es es' : List Ent} {k x : Nat} {label : ByteArray} {ss : List ByteArray} (hg : Wg es) (hw : Wf es) (h : JO es k label ss x es') (hl : es.length + ss.length < 60000) (h4 : k = 4 → ss.length = 2) (h6 : k = 6 → ss.length = 4) (h7 : k = 7 → ss.length = 2) : Wg es' := by
  have h1 := hg.parts ss ss.length
  have h2 := hw.parts ss ss.length (by omega)
  rcases h with ⟨_, rfl⟩ | ⟨_, _, b, rfl⟩
  · exact h1
  · refine h1.app _ (fun k' n' s' ps' b' e => ?_)
    cases e
    by_cases hk : k = 4
    · subst hk
      have e3 : joinP (pfE es ss ss.length) 4 (pfN es ss ss.length) = dhP (pfE es ss ss.length) ((pfN es ss ss.length).getD 0 0) ((pfN es ss ss.length).getD 1 0) := if_pos rfl
      have n0 := ns_lt es ss (j := 0) (by have := h4 rfl; omega)
      have n1 := ns_lt es ss (j := 1) (by have := h4 rfl; omega)
      rw [e3]
      refine ⟨fun y hy => ?_, fun _ => dhP_len _ _ _, fun h => by omega, fun h => by omega⟩
      unfold dhP at hy
      split at hy
      · rename_i c hc
        have := secT_lt h1 h2 hc
        simp only [List.mem_cons, List.not_mem_nil, or_false] at hy
        omega
      · simp only [List.mem_cons, List.not_mem_nil, or_false] at hy
        omega
    · have e3 : joinP (pfE es ss ss.length) k (pfN es ss ss.length) = pfN es ss ss.length := if_neg hk
      rw [e3]
      exact ⟨pfN_lt es ss ss.length, fun h => absurd h hk, fun h => by rw [pfN_len]; exact h6 h, fun h => by rw [pfN_len]; exact h7 h⟩
end Go.Proofs.YtcjjbpbehapjpaaGreat
