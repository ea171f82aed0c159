/-
  rule: a term is known, once all of these are.
-/
import Derived.Test.YtcjjbpbehapjpaaGreatTR
set_option linter.unusedVariables false
namespace Go.Proofs.YtcjjbpbehapjpaaGreat
open Go.RowKit

theorem info125 : (Tryz.prog.info? 210).map (fun i => (i.zero, i.size, i.bytes)) = some (some (.agg #[.int .i64 0, .int .i64 0]), 2, 16) := by kernel_rfl
theorem avs_get {avs : List Value} {x : Nat} {v : Value} (h : avs[x]? = some v) : avs.toArray[x]? = some v := by simpa using h
theorem app_step {ρ : Operand → Value} {x y : Operand} {dst : Option Tmp} {ty : TypeId} {pos : String} {aft : Array Edge} {gd : Option (Nat × Bool)} {z : Base} {w : World} {v : Value} {l0 : List Nat} {k n : Nat} {a1 a3 : Nat × TypeId × Array Value} {A1 A2 LB LC LD L : BL} {c : Array Value} {ab : Nat}
    (hv : Row 3 1 v l0.length (inl l0) LC) (H : HA z ((n, 3, intc [k]) :: (a1 :: (ab, 81, c) :: a3 :: (A1 ++ (A2 ++ ((LB ++ (LC ++ LD)) ++ L))))) w) (_ : Blk w ab 81 c) (hx : ρ x = v) (hy : ρ y = .slice (some ⟨n, 0, none⟩) 1 1) (hl : l0.length ≤ 1000000) :
    ∃ n' W, (execOp ρ ⟨dst, .call { callee := .builtin .append, args := #[x, y], argTypes := #[81, 81] }, ty, pos, aft, gd⟩).run Tryz.prog w = .ok (.value (.slice (some ⟨(unp n').1, 0, none⟩) (l0.length + 1) (unp n').2)) W ∧ HA z [a1] W ∧ Blk W ab 81 c ∧
      ∃ C', Row 3 1 (.slice (some ⟨(unp n').1, 0, none⟩) (l0.length + 1) (unp n').2) (l0 ++ [k]).length (inl (l0 ++ [k])) C' ∧ HA z (a1 :: (ab, 81, c) :: a3 :: (A1 ++ (A2 ++ ((LB ++ (C' ++ LD)) ++ L)))) W := by
  have H1 : HA z (LC ++ ((n, 3, intc [k]) :: (a1 :: (ab, 81, c) :: a3 :: (A1 ++ (A2 ++ (LB ++ (LD ++ L))))))) w := H.perm (by
    have := perm_mv ((n, 3, intc [k]) :: a1 :: (ab, 81, c) :: a3 :: (A1 ++ (A2 ++ LB))) LC (LD ++ L)
    simpa [List.append_assoc] using this)
  obtain ⟨i, hi, hh⟩ := Option.map_eq_some_iff.1 info3
  simp only [Prod.mk.injEq] at hh
  have hp := H.get 0 rfl
  obtain ⟨v', W, C', hrun, hR', H'⟩ := hv.append H1 (by decide) 81 ty i (.int .i64 0) 8 Tryz.underlying81 hi hh.1 hh.2.1 hh.2.2 rfl (by decide) ⟨n, 0, none⟩ 1 1 [iN .i64 k] rfl (fun j u hu => by
    have hadd : (⟨n, 0, none⟩ : Addr).add j = ⟨n, j, none⟩ := by unfold Addr.add; split <;> simp_all
    rw [hadd, hp.cell j]
    simpa [intc] using hu) (fun u hu => by rw [List.mem_singleton] at hu; rw [hu]; rfl) (by unfold maxLen; omega) (by omega) (by decide)
  obtain ⟨g, cap, hg⟩ : ∃ g cap, v' = .slice (some ⟨g, 0, none⟩) (l0.length + 1) cap := by
    rcases hR'.2 with ⟨_, h2, _⟩ | ⟨g, cap, cur, h1, _⟩
    · omega
    · exact ⟨g, cap, h1⟩
  obtain ⟨n', hn'⟩ := unp_all (g + cap) g cap rfl
  have hsv : (Value.slice (some ⟨(unp n').1, 0, none⟩) (l0.length + 1) (unp n').2) = v' := by rw [hn', hg]
  have H2 : HA z (a1 :: (ab, 81, c) :: a3 :: (A1 ++ (A2 ++ ((LB ++ (C' ++ LD)) ++ L)))) W := (H'.sub (List.Sublist.append (List.Sublist.refl C') (List.sublist_cons_self _ _))).perm (by
    have := perm_mv C' (a1 :: (ab, 81, c) :: a3 :: (A1 ++ (A2 ++ LB))) (LD ++ L)
    simpa [List.append_assoc] using this)
  refine ⟨n', W, ?_, H2.sub (List.Sublist.cons_cons _ (List.nil_sublist _)), H2.get 1 rfl, C', ?_, H2⟩
  · rw [hsv]
    unfold execOp
    simp only [resolve, invoke, builtin, Sem.run_bind, Sem.run_pure, Result.andThen_ok, List.map_toArray, List.map_cons, List.map_nil, hx, hy, hrun]
  · rw [hsv]
    simpa [inl] using hR'
theorem rule1_ok {m : Nat} {st : St} (h : Wok m st) {x : Nat} (hx : x < m) (l : List Nat) : Wok m ({ st with asked := askS st st.rules.length l, rules := st.rules ++ [((l.length : Int), x)] } : St) := by
  refine ⟨(askS_len _ _ _).trans h.al, h.kl, fun r hr => ?_, ?_, h.nx, h.nl⟩
  · rcases List.mem_append.1 hr with hr | hr
    · exact h.th r hr
    · rw [List.mem_singleton] at hr; rw [hr]; exact hx
  · exact ask_mem l st.asked _ (fun r hr y hy => by have := h.rl r hr y hy; simp; omega) (by simp)
set_option maxRecDepth 100000 in
set_option maxHeartbeats 2000000 in
theorem rule_a {z : Base} {b : Wb} {m : Nat} {st : St} {L : BL} {w : World} (H : WH z b m st L w) (hw : Wok m st) {x : Nat} (hx : x < m) (hnl : st.next.length ≤ 1000000) (hrl : st.rules.length ≤ 1000000) (l : List Nat) (o : Option Addr) (cl : Nat) (hl : Rd3 z L o l) (hlm : ∀ i, i < l.length → l.getD i 0 < m) (hsm : ∀ i y, ((askK st st.rules.length l i).getD y []).length ≤ 1000000) (hll : l.length ≤ 1000000) (h0 : l.length = 0) :
    Calls Tryz.prog 124 #[pt b.p, iN .i64 x, .slice o l.length cl] w fun e w' => e = .returned (.tuple #[]) ∧ WH z b m (ruleS st x l) L w' := by
  obtain ⟨rv, nv, avs, Lr, Ln, La, hR, hN, hA, H0⟩ := H
  obtain ⟨pr, cr, rfl⟩ := hR.form
  obtain ⟨pn, cn, rfl⟩ := hN.form
  have hkl := hw.kl
  have hal := hw.al
  have hok1 : Wok m ({ st with asked := askS st st.rules.length l, rules := st.rules ++ [((l.length : Int), x)] } : St) := rule1_ok hw hx l
  go_enter Tryz.func124, Tryz.ntmps124
  refine wp_seq (wp_seq (wl_region ?_))
  refine zv (.slice o l.length cl) ?_
  refine zv (iN .i64 l.length) ?_
  refine zv (iN .i64 0) ?_
  refine wl_nil (then_at rfl (wp_block ?_))
  refine wp_count (fun i A w' => ∃ u1 : Nat → Value, A = ⟨(pt b.p :: iN .i64 x :: .slice o l.length cl :: un :: un :: un :: un :: u1 7 :: .slice o l.length cl :: iN .i64 l.length :: iN .i64 i :: u1 11 :: u1 12 :: u1 13 :: u1 14 :: u1 15 :: u1 16 :: u1 17 :: u1 18 :: u1 19 :: u1 20 :: u1 21 :: u1 22 :: u1 23 :: u1 24 :: u1 25 :: u1 26 :: u1 27 :: u1 28 :: u1 29 :: u1 30 :: u1 31 :: u1 32 :: u1 33 :: u1 34 :: List.replicate 19 un).toArray, []⟩ ∧ ∃ avs La, NRows avs (askK st st.rules.length l i) La ∧ HA z ((b.p, 157, wcell b m (.slice pr st.rules.length cr) (.slice pn st.next.length cn)) :: (b.ab, 81, avs.toArray) :: (b.kb, 4, boc st.known) :: (Lr ++ (Ln ++ (La ++ L)))) w') l.length ?_ ?_ ?_
  · exact ⟨fun ii => (([(7, undef), (11, undef), (12, undef), (13, undef), (14, undef), (15, undef), (16, undef), (17, undef), (18, undef), (19, undef), (20, undef), (21, undef), (22, undef), (23, undef), (24, undef), (25, undef), (26, undef), (27, undef), (28, undef), (29, undef), (30, undef), (31, undef), (32, undef), (33, undef), (34, undef)] : List (Nat × Value)).find? (·.1 == ii)).elim undef (·.2), by kernel_rfl, avs, La, hA, H0⟩
  · rintro i hk _ w2 ⟨u1, rfl, avs, La, hA, hH⟩
    obtain ⟨pq, c0, rfl, hm, hc⟩ := hl.resolve_left (by intro e; rw [e] at hk; simp at hk)
    have hxm : l.getD i 0 < m := hlm i hk
    obtain ⟨v, LB, LC, LD, hav, rfl, hv, hset⟩ := hA.at (l.getD i 0) (by rw [askK_len, hal]; exact hxm)
    obtain ⟨pv, cv, rfl⟩ := hv.form
    have havs : avs.length = m := by rw [hA.len, askK_len, hal]
    refine wp_seq (wl_region ?_)
    refine zu (.bool true) (run_lss (k := .i64) (a := i) (b := l.length) ky ky true (decide_eq_true (by omega))) ?_
    refine wl_nil (then_at rfl (wp_seq ?_))
    refine wp_cond_true ky ?_
    refine wp_skip (then_at rfl (wp_seq (wp_block (wp_seq (wl_region ?_)))))
    refine zu (.pointer (some ⟨pq, i, none⟩)) (run_addr_slice (q := pq) (n := l.length) (m := cl) (a := i) Tryz.underlying81 (fun w => Tryz.sizeOf3 w) ky ky (by omega)) ?_
    refine zu (iN .i64 (l.getD i 0)) (run_load1 (fun w => Tryz.isAgg3 w) ky (((Rd3.cell hm hH (by intro y hy; simp [hy])).cell i).trans (hc i hk))) ?_
    refine zv (iN .i64 (l.getD i 0)) ?_
    refine wl_nil (then_at rfl ?_)
    refine wp_region_ghost (fun g : Nat → Nat => (⟨(pt b.p :: iN .i64 x :: .slice (some ⟨pq, 0, none⟩) l.length cl :: un :: un :: un :: un :: iN .i64 (l.getD i 0) :: .slice (some ⟨pq, 0, none⟩) l.length cl :: iN .i64 l.length :: iN .i64 i :: .bool true :: .pointer (some ⟨pq, i, none⟩) :: iN .i64 (l.getD i 0) :: pt b.p :: pt b.p :: .pointer (some ⟨b.p, 1, none⟩) :: .slice (some ⟨b.ab, 0, none⟩) m m :: iN .i64 (l.getD i 0) :: pt b.p :: pt b.p :: .pointer (some ⟨b.p, 1, none⟩) :: .slice (some ⟨b.ab, 0, none⟩) m m :: iN .i64 (l.getD i 0) :: .pointer (some ⟨b.ab, l.getD i 0, none⟩) :: .slice pv ((askK st st.rules.length l i).getD (l.getD i 0) []).length cv :: pt b.p :: pt b.p :: pt b.p :: .slice pr st.rules.length cr :: iN .i64 st.rules.length :: .slice (some ⟨g 17, 0, none⟩) 1 1 :: .slice (some ⟨(unp (g 18)).1, 0, none⟩) (((askK st st.rules.length l i).getD (l.getD i 0) []).length + 1) (unp (g 18)).2 :: .pointer (some ⟨b.ab, l.getD i 0, none⟩) :: u1 34 :: List.replicate 19 un).toArray, []⟩ : Act)) (G3 (HA z [(b.p, 157, wcell b m (.slice pr st.rules.length cr) (.slice pn st.next.length cn))]) (fun w' => Blk w' b.ab 81 avs.toArray) (HA z ((b.p, 157, wcell b m (.slice pr st.rules.length cr) (.slice pn st.next.length cn)) :: (b.ab, 81, avs.toArray) :: (b.kb, 4, boc st.known) :: (Lr ++ (Ln ++ ((LB ++ (LC ++ LD)) ++ L))))) (fun n => HA z ((n, 3, intc [st.rules.length]) :: ((b.p, 157, wcell b m (.slice pr st.rules.length cr) (.slice pn st.next.length cn)) :: (b.ab, 81, avs.toArray) :: (b.kb, 4, boc st.known) :: (Lr ++ (Ln ++ ((LB ++ (LC ++ LD)) ++ L)))))) (fun _ n w' => ∃ C', Row 3 1 (.slice (some ⟨(unp n).1, 0, none⟩) (((askK st st.rules.length l i).getD (l.getD i 0) []).length + 1) (unp n).2) (((askK st st.rules.length l i).getD (l.getD i 0) []) ++ [st.rules.length]).length (inl (((askK st st.rules.length l i).getD (l.getD i 0) []) ++ [st.rules.length])) C' ∧ HA z ((b.p, 157, wcell b m (.slice pr st.rules.length cr) (.slice pn st.next.length cn)) :: (b.ab, 81, avs.toArray) :: (b.kb, 4, boc st.known) :: (Lr ++ (Ln ++ ((LB ++ (C' ++ LD)) ++ L)))) w') (fun _ n w' => ∃ C', Row 3 1 (.slice (some ⟨(unp n).1, 0, none⟩) (((askK st st.rules.length l i).getD (l.getD i 0) []).length + 1) (unp n).2) (((askK st st.rules.length l i).getD (l.getD i 0) []) ++ [st.rules.length]).length (inl (((askK st st.rules.length l i).getD (l.getD i 0) []) ++ [st.rules.length])) C' ∧ HA z ((b.p, 157, wcell b m (.slice pr st.rules.length cr) (.slice pn st.next.length cn)) :: (b.ab, 81, (avs.set (l.getD i 0) (.slice (some ⟨(unp n).1, 0, none⟩) (((askK st st.rules.length l i).getD (l.getD i 0) []).length + 1) (unp n).2)).toArray) :: (b.kb, 4, boc st.known) :: (Lr ++ (Ln ++ ((LB ++ (C' ++ LD)) ++ L)))) w') (fun i => ([[], [], [], [], [], [], [], [], [], [], [], [], [], [], [], [], [], [], [17], [], [17, 18, 11]] : List (List Nat)).getD i []) 17 18 20) [.pointer (some ⟨b.p, 0, none⟩), .pointer (some ⟨b.p, 0, none⟩), .pointer (some ⟨b.p, 1, none⟩), .slice (some ⟨b.ab, 0, none⟩) m m, iN .i64 (l.getD i 0), .pointer (some ⟨b.p, 0, none⟩), .pointer (some ⟨b.p, 0, none⟩), .pointer (some ⟨b.p, 1, none⟩), .slice (some ⟨b.ab, 0, none⟩) m m, iN .i64 (l.getD i 0), .pointer (some ⟨b.ab, l.getD i 0, none⟩), .slice pv ((askK st st.rules.length l i).getD (l.getD i 0) []).length cv, .pointer (some ⟨b.p, 0, none⟩), .pointer (some ⟨b.p, 0, none⟩), .pointer (some ⟨b.p, 0, none⟩), .slice pr st.rules.length cr, iN .i64 st.rules.length, .slice (some ⟨0, 0, none⟩) 1 1, .slice (some ⟨(unp 0).1, 0, none⟩) (((askK st st.rules.length l i).getD (l.getD i 0) []).length + 1) (unp 0).2, .pointer (some ⟨b.ab, l.getD i 0, none⟩), undef] ky ky ky ky (fun _ _ _ _ h => h) (fun d hd => G3.start (hH.drew.sub (List.Sublist.cons_cons _ (List.nil_sublist _))) (hH.drew.get 1 rfl) hH.drew (hd 17 (by decide)) (hd 18 (by decide)) (hd 20 (by decide)) (Cl.start (n := 21) hd (by decide))) ?_ ?_
    · refine AllGhost.cons (g3_read (v := fun g => .pointer (some ⟨b.p, 0, none⟩)) (by decide) (by decide) (by decide) ky (fun _ => by kernel_rfl) (fun _ => by kernel_rfl) (fun g _ _ => ky)) ?_
      refine AllGhost.cons (g3_read (v := fun g => .pointer (some ⟨b.p, 0, none⟩)) (by decide) (by decide) (by decide) ky (fun _ => by kernel_rfl) (fun _ => by kernel_rfl) (fun g _ _ => ky)) ?_
      refine AllGhost.cons (g3_read (v := fun g => .pointer (some ⟨b.p, 1, none⟩)) (by decide) (by decide) (by decide) ky (fun _ => by kernel_rfl) (fun _ => by kernel_rfl) (fun g _ _ => ky)) ?_
      refine AllGhost.cons (g3_read (v := fun g => .slice (some ⟨b.ab, 0, none⟩) m m) (by decide) (by decide) (by decide) ky (fun _ => by kernel_rfl) (fun _ => by kernel_rfl) (fun g w' h' => run_load1 (fun w => Tryz.isAgg149 w) ky (((h'.get 0 rfl).cell 1).trans rfl))) ?_
      refine AllGhost.cons (g3_read (v := fun g => iN .i64 (l.getD i 0)) (by decide) (by decide) (by decide) ky (fun _ => by kernel_rfl) (fun _ => by kernel_rfl) (fun g _ _ => ky)) ?_
      refine AllGhost.cons (g3_read (v := fun g => .pointer (some ⟨b.p, 0, none⟩)) (by decide) (by decide) (by decide) ky (fun _ => by kernel_rfl) (fun _ => by kernel_rfl) (fun g _ _ => ky)) ?_
      refine AllGhost.cons (g3_read (v := fun g => .pointer (some ⟨b.p, 0, none⟩)) (by decide) (by decide) (by decide) ky (fun _ => by kernel_rfl) (fun _ => by kernel_rfl) (fun g _ _ => ky)) ?_
      refine AllGhost.cons (g3_read (v := fun g => .pointer (some ⟨b.p, 1, none⟩)) (by decide) (by decide) (by decide) ky (fun _ => by kernel_rfl) (fun _ => by kernel_rfl) (fun g _ _ => ky)) ?_
      refine AllGhost.cons (g3_read (v := fun g => .slice (some ⟨b.ab, 0, none⟩) m m) (by decide) (by decide) (by decide) ky (fun _ => by kernel_rfl) (fun _ => by kernel_rfl) (fun g w' h' => run_load1 (fun w => Tryz.isAgg149 w) ky (((h'.get 0 rfl).cell 1).trans rfl))) ?_
      refine AllGhost.cons (g3_read (v := fun g => iN .i64 (l.getD i 0)) (by decide) (by decide) (by decide) ky (fun _ => by kernel_rfl) (fun _ => by kernel_rfl) (fun g _ _ => ky)) ?_
      refine AllGhost.cons (g3_read (v := fun g => .pointer (some ⟨b.ab, l.getD i 0, none⟩)) (by decide) (by decide) (by decide) ky (fun _ => by kernel_rfl) (fun _ => by kernel_rfl) (fun g _ _ => (run_addr_slice (q := b.ab) (n := m) (m := m) (a := l.getD i 0) Tryz.underlying149 (fun w => Tryz.sizeOf81 w) ky ky (by omega)))) ?_
      refine AllGhost.cons (g3_readM (v := fun g => .slice pv ((askK st st.rules.length l i).getD (l.getD i 0) []).length cv) (by decide) (by decide) (by decide) (by decide) ky (fun _ => by kernel_rfl) (fun _ => by kernel_rfl) (fun g w' h' => run_load1 (fun w => Tryz.isAgg81 w) ky ((h'.cell (l.getD i 0)).trans (avs_get hav)))) ?_
      refine AllGhost.cons (g3_read (v := fun g => .pointer (some ⟨b.p, 0, none⟩)) (by decide) (by decide) (by decide) ky (fun _ => by kernel_rfl) (fun _ => by kernel_rfl) (fun g _ _ => ky)) ?_
      refine AllGhost.cons (g3_read (v := fun g => .pointer (some ⟨b.p, 0, none⟩)) (by decide) (by decide) (by decide) ky (fun _ => by kernel_rfl) (fun _ => by kernel_rfl) (fun g _ _ => ky)) ?_
      refine AllGhost.cons (g3_read (v := fun g => .pointer (some ⟨b.p, 0, none⟩)) (by decide) (by decide) (by decide) ky (fun _ => by kernel_rfl) (fun _ => by kernel_rfl) (fun g _ _ => ky)) ?_
      refine AllGhost.cons (g3_read (v := fun g => .slice pr st.rules.length cr) (by decide) (by decide) (by decide) ky (fun _ => by kernel_rfl) (fun _ => by kernel_rfl) (fun g w' h' => run_load1 (fun w => Tryz.isAgg155 w) ky (((h'.get 0 rfl).cell 0).trans rfl))) ?_
      refine AllGhost.cons (g3_read (v := fun g => iN .i64 st.rules.length) (by decide) (by decide) (by decide) ky (fun _ => by kernel_rfl) (fun _ => by kernel_rfl) (fun g _ _ => ky)) ?_
      refine AllGhost.cons (g3_act0 (v := fun n => .slice (some ⟨n, 0, none⟩) 1 1) (by decide) (by decide) (by decide) (by decide) ky (fun _ => by kernel_rfl) (fun _ _ => by kernel_rfl) (fun g w' hr hr' h' => ⟨w'.heap.size, _, (by kernel_rfl : (execOp _ _).run Tryz.prog w' = .ok (.value (.slice (some ⟨w'.heap.size, 0, none⟩) 1 1)) (w'.alloc (.cells (intc [st.rules.length]) 3))), (h'.make 3 (intc [st.rules.length])).sub (List.Sublist.cons _ (List.Sublist.cons_cons _ (List.nil_sublist _))), hr'.alloc _, h'.make 3 (intc [st.rules.length])⟩)) ?_
      refine AllGhost.cons (g3_act1 (v := fun n => .slice (some ⟨(unp n).1, 0, none⟩) (((askK st st.rules.length l i).getD (l.getD i 0) []).length + 1) (unp n).2) (by decide) (by decide) (by decide) (by decide) ky (fun _ => by kernel_rfl) (fun _ _ => by kernel_rfl) (fun g w' hr hr' h' => app_step hv h' hr' ky ky (hsm i _))) ?_
      refine AllGhost.cons (g3_read (v := fun g => .pointer (some ⟨b.ab, l.getD i 0, none⟩)) (by decide) (by decide) (by decide) ky (fun _ => by kernel_rfl) (fun _ => by kernel_rfl) (fun g _ _ => (run_addr_slice (q := b.ab) (n := m) (m := m) (a := l.getD i 0) Tryz.underlying149 (fun w => Tryz.sizeOf81 w) ky ky (by omega)))) ?_
      refine AllGhost.cons (g3_act2 (by decide) ky (fun _ => by kernel_rfl) (fun _ => by kernel_rfl) (fun g w' hr hr' h' => by obtain ⟨C', h1, h2⟩ := h'; exact ⟨_, run_storev (fun w => Tryz.sizeOf81 w) ky ky ky (by rw [(h2.get 1 rfl).cell, avs_get hav]; rfl) ((h2.get 1 rfl).free _ (by simp [havs]; exact hxm)), (h2.put 1 rfl (l.getD i 0) _).sub (List.Sublist.cons_cons _ (List.nil_sublist _)), C', h1, by have := h2.put 1 rfl (l.getD i 0) (.slice (some ⟨(unp (g 18)).1, 0, none⟩) (((askK st st.rules.length l i).getD (l.getD i 0) []).length + 1) (unp (g 18)).2); rw [List.setIfInBounds_toArray] at this; exact this⟩)) ?_
      exact AllGhost.nil
    intro g w3 gg4
    have h5 := gg4.held
    rw [if_pos rfl] at h5
    clear gg4
    obtain ⟨C1, hC1, hH1⟩ := h5
    refine block_normal (then_at rfl (wl_region ?_))
    refine zu (iN .i64 (i + 1)) (run_add (k := .i64) (a := i) (b := 1) ky ky (by simp only [top]; omega)) ?_
    refine zv (iN .i64 (i + 1)) ?_
    refine wl_nil ?_
    exact then_I ⟨fun ii => (([(7, iN .i64 (l.getD i 0)), (11, .bool true), (12, .pointer (some ⟨pq, i, none⟩)), (13, iN .i64 (l.getD i 0)), (14, .pointer (some ⟨b.p, 0, none⟩)), (15, .pointer (some ⟨b.p, 0, none⟩)), (16, .pointer (some ⟨b.p, 1, none⟩)), (17, .slice (some ⟨b.ab, 0, none⟩) m m), (18, iN .i64 (l.getD i 0)), (19, .pointer (some ⟨b.p, 0, none⟩)), (20, .pointer (some ⟨b.p, 0, none⟩)), (21, .pointer (some ⟨b.p, 1, none⟩)), (22, .slice (some ⟨b.ab, 0, none⟩) m m), (23, iN .i64 (l.getD i 0)), (24, .pointer (some ⟨b.ab, l.getD i 0, none⟩)), (25, .slice pv ((askK st st.rules.length l i).getD (l.getD i 0) []).length cv), (26, .pointer (some ⟨b.p, 0, none⟩)), (27, .pointer (some ⟨b.p, 0, none⟩)), (28, .pointer (some ⟨b.p, 0, none⟩)), (29, .slice pr st.rules.length cr), (30, iN .i64 st.rules.length), (31, .slice (some ⟨g 17, 0, none⟩) 1 1), (32, .slice (some ⟨(unp (g 18)).1, 0, none⟩) (((askK st st.rules.length l i).getD (l.getD i 0) []).length + 1) (unp (g 18)).2), (33, .pointer (some ⟨b.ab, l.getD i 0, none⟩)), (34, iN .i64 (i + 1))] : List (Nat × Value)).find? (·.1 == ii)).elim undef (·.2), by kernel_rfl, _, _, (by rw [askK_step st st.rules.length l i hk]; exact hset _ _ C1 hC1), hH1⟩
  · rintro _ w6 ⟨u1, rfl, avs, La, hA, hH⟩
    refine wp_seq (wl_region ?_)
    refine zu (.bool false) (run_lss (k := .i64) (a := l.length) (b := l.length) ky ky false (decide_eq_false (by omega))) ?_
    refine wl_nil (then_at rfl (wp_seq ?_))
    refine wp_cond_false ky ?_
    refine wp_exit ?_
    repeat first | refine then_exit ?_ | refine block_exit ?_ | refine block_exit_ne (by decide) ?_
    refine then_at rfl (wp_seq (wl_region ?_))
    refine zv (.pointer (some ⟨b.p, 0, none⟩)) ?_
    refine zv (.pointer (some ⟨b.p, 0, none⟩)) ?_
    refine zv (.pointer (some ⟨b.p, 0, none⟩)) ?_
    refine zv (.pointer (some ⟨b.p, 0, none⟩)) ?_
    refine zu (.slice pr st.rules.length cr) (run_load1 (fun w => Tryz.isAgg155 w) ky (((hH.get 0 rfl).cell 0).trans rfl)) ?_
    refine zv (.slice o l.length cl) ?_
    refine zv (iN .i64 l.length) ?_
    refine zv (iN .i64 x) ?_
    refine zv (.agg #[iN .i64 l.length, iN .i64 x]) ?_
    refine wl_mks (n := 1) (m := 1) (c := #[iN .i64 l.length, iN .i64 x]) hH 210 ky ky ?_
    intro q7 w8 (h9 : HA z ((q7, 210, #[iN .i64 l.length, iN .i64 x]) :: (b.p, 157, wcell b m (.slice pr st.rules.length cr) (.slice pn st.next.length cn)) :: (b.ab, 81, avs.toArray) :: (b.kb, 4, boc st.known) :: (Lr ++ (Ln ++ (La ++ L)))) w8)
    have h10 : HA z ((q7, 210, #[iN .i64 l.length, iN .i64 x]) :: (Lr ++ (([(b.p, 157, wcell b m (.slice pr st.rules.length cr) (.slice pn st.next.length cn)), (b.ab, 81, avs.toArray), (b.kb, 4, boc st.known)]) ++ (Ln ++ (La ++ L))))) w8 := h9.perm (List.Perm.cons _ (perm_mv ([(b.p, 157, wcell b m (.slice pr st.rules.length cr) (.slice pn st.next.length cn)), (b.ab, 81, avs.toArray), (b.kb, 4, boc st.known)]) Lr (Ln ++ (La ++ L))))
    refine wl_append (m := 1) (c := 1) hR h10 (by decide) (.agg #[.int .i64 0, .int .i64 0]) 16 Tryz.underlying155 info125 rfl (by decide) ky ky ky rfl ky (by unfold maxLen; omega) (by omega) (by decide) ?_
    intro v1 w11 Lr1 hR1 h12
    obtain ⟨pr1, cr1, rfl⟩ := hR1.form
    have h13 : HA z ((b.p, 157, wcell b m (.slice pr st.rules.length cr) (.slice pn st.next.length cn)) :: (b.ab, 81, avs.toArray) :: (b.kb, 4, boc st.known) :: (Lr1 ++ (Ln ++ (La ++ L)))) w11 := HA.mv Lr1 ([(b.p, 157, wcell b m (.slice pr st.rules.length cr) (.slice pn st.next.length cn)), (b.ab, 81, avs.toArray), (b.kb, 4, boc st.known)]) (Ln ++ (La ++ L)) h12
    refine zv (.pointer (some ⟨b.p, 0, none⟩)) ?_
    refine zv (.pointer (some ⟨b.p, 0, none⟩)) ?_
    refine wl_putv (v := .slice pr1 (st.rules.length + 1) cr1) h13 0 rfl 0 (by show 0 < 4; decide) ky (fun w => Tryz.sizeOf155 w) ky ky ky ?_
    intro w14 (h15 : HA z ((b.p, 157, wcell b m (.slice pr1 (st.rules.length + 1) cr1) (.slice pn st.next.length cn)) :: (b.ab, 81, avs.toArray) :: (b.kb, 4, boc st.known) :: (Lr1 ++ (Ln ++ (La ++ L)))) w14)
    refine wl_nil (then_at rfl (wp_seq ?_))
    have hW1 : WH z b m ({ st with asked := askS st st.rules.length l, rules := st.rules ++ [((l.length : Int), x)] } : St) L w14 := ⟨_, _, avs, Lr1, Ln, La, by simpa [rcl, iN] using hR1, hN, by have := hA; unfold askK at this; rw [List.take_length] at this; exact this, h15⟩
    refine wl_region ?_
    refine zv (.slice o l.length cl) ?_
    refine zv (iN .i64 l.length) ?_
    refine zu (.bool true) (run_eqi (k := .i64) (a := l.length) (b := 0) ky ky true (decide_eq_true (by omega))) ?_
    refine wl_nil (then_at rfl ?_)
    refine wp_cond_true ky ?_
    refine wl_region ?_
    refine zv (.pointer (some ⟨b.p, 0, none⟩)) ?_
    refine zv (iN .i64 x) ?_
    refine wl_callx ky enter75 #[.pointer (some ⟨b.p, 0, none⟩), iN .i64 x] ky (learn_any hW1 hok1 hx hnl) ?_
    rintro _ w16 ⟨rfl, hW2⟩
    refine ⟨_, rfl, ?_⟩
    refine wl_nil ?_
    exact bodyPost_end (v := .tuple #[]) ky rfl ⟨rfl, by rw [ruleS]; simp only [h0, if_true]; simpa [h0] using hW2⟩
set_option maxRecDepth 100000 in
set_option maxHeartbeats 2000000 in
theorem rule_b {z : Base} {b : Wb} {m : Nat} {st : St} {L : BL} {w : World} (H : WH z b m st L w) (hw : Wok m st) {x : Nat} (hx : x < m) (hnl : st.next.length ≤ 1000000) (hrl : st.rules.length ≤ 1000000) (l : List Nat) (o : Option Addr) (cl : Nat) (hl : Rd3 z L o l) (hlm : ∀ i, i < l.length → l.getD i 0 < m) (hsm : ∀ i y, ((askK st st.rules.length l i).getD y []).length ≤ 1000000) (hll : l.length ≤ 1000000) (h0 : ¬ l.length = 0) :
    Calls Tryz.prog 124 #[pt b.p, iN .i64 x, .slice o l.length cl] w fun e w' => e = .returned (.tuple #[]) ∧ WH z b m (ruleS st x l) L w' := by
  obtain ⟨rv, nv, avs, Lr, Ln, La, hR, hN, hA, H0⟩ := H
  obtain ⟨pr, cr, rfl⟩ := hR.form
  obtain ⟨pn, cn, rfl⟩ := hN.form
  have hkl := hw.kl
  have hal := hw.al
  have hok1 : Wok m ({ st with asked := askS st st.rules.length l, rules := st.rules ++ [((l.length : Int), x)] } : St) := rule1_ok hw hx l
  go_enter Tryz.func124, Tryz.ntmps124
  refine wp_seq (wp_seq (wl_region ?_))
  refine zv (.slice o l.length cl) ?_
  refine zv (iN .i64 l.length) ?_
  refine zv (iN .i64 0) ?_
  refine wl_nil (then_at rfl (wp_block ?_))
  refine wp_count (fun i A w' => ∃ u1 : Nat → Value, A = ⟨(pt b.p :: iN .i64 x :: .slice o l.length cl :: un :: un :: un :: un :: u1 7 :: .slice o l.length cl :: iN .i64 l.length :: iN .i64 i :: u1 11 :: u1 12 :: u1 13 :: u1 14 :: u1 15 :: u1 16 :: u1 17 :: u1 18 :: u1 19 :: u1 20 :: u1 21 :: u1 22 :: u1 23 :: u1 24 :: u1 25 :: u1 26 :: u1 27 :: u1 28 :: u1 29 :: u1 30 :: u1 31 :: u1 32 :: u1 33 :: u1 34 :: List.replicate 19 un).toArray, []⟩ ∧ ∃ avs La, NRows avs (askK st st.rules.length l i) La ∧ HA z ((b.p, 157, wcell b m (.slice pr st.rules.length cr) (.slice pn st.next.length cn)) :: (b.ab, 81, avs.toArray) :: (b.kb, 4, boc st.known) :: (Lr ++ (Ln ++ (La ++ L)))) w') l.length ?_ ?_ ?_
  · exact ⟨fun ii => (([(7, undef), (11, undef), (12, undef), (13, undef), (14, undef), (15, undef), (16, undef), (17, undef), (18, undef), (19, undef), (20, undef), (21, undef), (22, undef), (23, undef), (24, undef), (25, undef), (26, undef), (27, undef), (28, undef), (29, undef), (30, undef), (31, undef), (32, undef), (33, undef), (34, undef)] : List (Nat × Value)).find? (·.1 == ii)).elim undef (·.2), by kernel_rfl, avs, La, hA, H0⟩
  · rintro i hk _ w2 ⟨u1, rfl, avs, La, hA, hH⟩
    obtain ⟨pq, c0, rfl, hm, hc⟩ := hl.resolve_left (by intro e; rw [e] at hk; simp at hk)
    have hxm : l.getD i 0 < m := hlm i hk
    obtain ⟨v, LB, LC, LD, hav, rfl, hv, hset⟩ := hA.at (l.getD i 0) (by rw [askK_len, hal]; exact hxm)
    obtain ⟨pv, cv, rfl⟩ := hv.form
    have havs : avs.length = m := by rw [hA.len, askK_len, hal]
    refine wp_seq (wl_region ?_)
    refine zu (.bool true) (run_lss (k := .i64) (a := i) (b := l.length) ky ky true (decide_eq_true (by omega))) ?_
    refine wl_nil (then_at rfl (wp_seq ?_))
    refine wp_cond_true ky ?_
    refine wp_skip (then_at rfl (wp_seq (wp_block (wp_seq (wl_region ?_)))))
    refine zu (.pointer (some ⟨pq, i, none⟩)) (run_addr_slice (q := pq) (n := l.length) (m := cl) (a := i) Tryz.underlying81 (fun w => Tryz.sizeOf3 w) ky ky (by omega)) ?_
    refine zu (iN .i64 (l.getD i 0)) (run_load1 (fun w => Tryz.isAgg3 w) ky (((Rd3.cell hm hH (by intro y hy; simp [hy])).cell i).trans (hc i hk))) ?_
    refine zv (iN .i64 (l.getD i 0)) ?_
    refine wl_nil (then_at rfl ?_)
    refine wp_region_ghost (fun g : Nat → Nat => (⟨(pt b.p :: iN .i64 x :: .slice (some ⟨pq, 0, none⟩) l.length cl :: un :: un :: un :: un :: iN .i64 (l.getD i 0) :: .slice (some ⟨pq, 0, none⟩) l.length cl :: iN .i64 l.length :: iN .i64 i :: .bool true :: .pointer (some ⟨pq, i, none⟩) :: iN .i64 (l.getD i 0) :: pt b.p :: pt b.p :: .pointer (some ⟨b.p, 1, none⟩) :: .slice (some ⟨b.ab, 0, none⟩) m m :: iN .i64 (l.getD i 0) :: pt b.p :: pt b.p :: .pointer (some ⟨b.p, 1, none⟩) :: .slice (some ⟨b.ab, 0, none⟩) m m :: iN .i64 (l.getD i 0) :: .pointer (some ⟨b.ab, l.getD i 0, none⟩) :: .slice pv ((askK st st.rules.length l i).getD (l.getD i 0) []).length cv :: pt b.p :: pt b.p :: pt b.p :: .slice pr st.rules.length cr :: iN .i64 st.rules.length :: .slice (some ⟨g 17, 0, none⟩) 1 1 :: .slice (some ⟨(unp (g 18)).1, 0, none⟩) (((askK st st.rules.length l i).getD (l.getD i 0) []).length + 1) (unp (g 18)).2 :: .pointer (some ⟨b.ab, l.getD i 0, none⟩) :: u1 34 :: List.replicate 19 un).toArray, []⟩ : Act)) (G3 (HA z [(b.p, 157, wcell b m (.slice pr st.rules.length cr) (.slice pn st.next.length cn))]) (fun w' => Blk w' b.ab 81 avs.toArray) (HA z ((b.p, 157, wcell b m (.slice pr st.rules.length cr) (.slice pn st.next.length cn)) :: (b.ab, 81, avs.toArray) :: (b.kb, 4, boc st.known) :: (Lr ++ (Ln ++ ((LB ++ (LC ++ LD)) ++ L))))) (fun n => HA z ((n, 3, intc [st.rules.length]) :: ((b.p, 157, wcell b m (.slice pr st.rules.length cr) (.slice pn st.next.length cn)) :: (b.ab, 81, avs.toArray) :: (b.kb, 4, boc st.known) :: (Lr ++ (Ln ++ ((LB ++ (LC ++ LD)) ++ L)))))) (fun _ n w' => ∃ C', Row 3 1 (.slice (some ⟨(unp n).1, 0, none⟩) (((askK st st.rules.length l i).getD (l.getD i 0) []).length + 1) (unp n).2) (((askK st st.rules.length l i).getD (l.getD i 0) []) ++ [st.rules.length]).length (inl (((askK st st.rules.length l i).getD (l.getD i 0) []) ++ [st.rules.length])) C' ∧ HA z ((b.p, 157, wcell b m (.slice pr st.rules.length cr) (.slice pn st.next.length cn)) :: (b.ab, 81, avs.toArray) :: (b.kb, 4, boc st.known) :: (Lr ++ (Ln ++ ((LB ++ (C' ++ LD)) ++ L)))) w') (fun _ n w' => ∃ C', Row 3 1 (.slice (some ⟨(unp n).1, 0, none⟩) (((askK st st.rules.length l i).getD (l.getD i 0) []).length + 1) (unp n).2) (((askK st st.rules.length l i).getD (l.getD i 0) []) ++ [st.rules.length]).length (inl (((askK st st.rules.length l i).getD (l.getD i 0) []) ++ [st.rules.length])) C' ∧ HA z ((b.p, 157, wcell b m (.slice pr st.rules.length cr) (.slice pn st.next.length cn)) :: (b.ab, 81, (avs.set (l.getD i 0) (.slice (some ⟨(unp n).1, 0, none⟩) (((askK st st.rules.length l i).getD (l.getD i 0) []).length + 1) (unp n).2)).toArray) :: (b.kb, 4, boc st.known) :: (Lr ++ (Ln ++ ((LB ++ (C' ++ LD)) ++ L)))) w') (fun i => ([[], [], [], [], [], [], [], [], [], [], [], [], [], [], [], [], [], [], [17], [], [17, 18, 11]] : List (List Nat)).getD i []) 17 18 20) [.pointer (some ⟨b.p, 0, none⟩), .pointer (some ⟨b.p, 0, none⟩), .pointer (some ⟨b.p, 1, none⟩), .slice (some ⟨b.ab, 0, none⟩) m m, iN .i64 (l.getD i 0), .pointer (some ⟨b.p, 0, none⟩), .pointer (some ⟨b.p, 0, none⟩), .pointer (some ⟨b.p, 1, none⟩), .slice (some ⟨b.ab, 0, none⟩) m m, iN .i64 (l.getD i 0), .pointer (some ⟨b.ab, l.getD i 0, none⟩), .slice pv ((askK st st.rules.length l i).getD (l.getD i 0) []).length cv, .pointer (some ⟨b.p, 0, none⟩), .pointer (some ⟨b.p, 0, none⟩), .pointer (some ⟨b.p, 0, none⟩), .slice pr st.rules.length cr, iN .i64 st.rules.length, .slice (some ⟨0, 0, none⟩) 1 1, .slice (some ⟨(unp 0).1, 0, none⟩) (((askK st st.rules.length l i).getD (l.getD i 0) []).length + 1) (unp 0).2, .pointer (some ⟨b.ab, l.getD i 0, none⟩), undef] ky ky ky ky (fun _ _ _ _ h => h) (fun d hd => G3.start (hH.drew.sub (List.Sublist.cons_cons _ (List.nil_sublist _))) (hH.drew.get 1 rfl) hH.drew (hd 17 (by decide)) (hd 18 (by decide)) (hd 20 (by decide)) (Cl.start (n := 21) hd (by decide))) ?_ ?_
    · refine AllGhost.cons (g3_read (v := fun g => .pointer (some ⟨b.p, 0, none⟩)) (by decide) (by decide) (by decide) ky (fun _ => by kernel_rfl) (fun _ => by kernel_rfl) (fun g _ _ => ky)) ?_
      refine AllGhost.cons (g3_read (v := fun g => .pointer (some ⟨b.p, 0, none⟩)) (by decide) (by decide) (by decide) ky (fun _ => by kernel_rfl) (fun _ => by kernel_rfl) (fun g _ _ => ky)) ?_
      refine AllGhost.cons (g3_read (v := fun g => .pointer (some ⟨b.p, 1, none⟩)) (by decide) (by decide) (by decide) ky (fun _ => by kernel_rfl) (fun _ => by kernel_rfl) (fun g _ _ => ky)) ?_
      refine AllGhost.cons (g3_read (v := fun g => .slice (some ⟨b.ab, 0, none⟩) m m) (by decide) (by decide) (by decide) ky (fun _ => by kernel_rfl) (fun _ => by kernel_rfl) (fun g w' h' => run_load1 (fun w => Tryz.isAgg149 w) ky (((h'.get 0 rfl).cell 1).trans rfl))) ?_
      refine AllGhost.cons (g3_read (v := fun g => iN .i64 (l.getD i 0)) (by decide) (by decide) (by decide) ky (fun _ => by kernel_rfl) (fun _ => by kernel_rfl) (fun g _ _ => ky)) ?_
      refine AllGhost.cons (g3_read (v := fun g => .pointer (some ⟨b.p, 0, none⟩)) (by decide) (by decide) (by decide) ky (fun _ => by kernel_rfl) (fun _ => by kernel_rfl) (fun g _ _ => ky)) ?_
      refine AllGhost.cons (g3_read (v := fun g => .pointer (some ⟨b.p, 0, none⟩)) (by decide) (by decide) (by decide) ky (fun _ => by kernel_rfl) (fun _ => by kernel_rfl) (fun g _ _ => ky)) ?_
      refine AllGhost.cons (g3_read (v := fun g => .pointer (some ⟨b.p, 1, none⟩)) (by decide) (by decide) (by decide) ky (fun _ => by kernel_rfl) (fun _ => by kernel_rfl) (fun g _ _ => ky)) ?_
      refine AllGhost.cons (g3_read (v := fun g => .slice (some ⟨b.ab, 0, none⟩) m m) (by decide) (by decide) (by decide) ky (fun _ => by kernel_rfl) (fun _ => by kernel_rfl) (fun g w' h' => run_load1 (fun w => Tryz.isAgg149 w) ky (((h'.get 0 rfl).cell 1).trans rfl))) ?_
      refine AllGhost.cons (g3_read (v := fun g => iN .i64 (l.getD i 0)) (by decide) (by decide) (by decide) ky (fun _ => by kernel_rfl) (fun _ => by kernel_rfl) (fun g _ _ => ky)) ?_
      refine AllGhost.cons (g3_read (v := fun g => .pointer (some ⟨b.ab, l.getD i 0, none⟩)) (by decide) (by decide) (by decide) ky (fun _ => by kernel_rfl) (fun _ => by kernel_rfl) (fun g _ _ => (run_addr_slice (q := b.ab) (n := m) (m := m) (a := l.getD i 0) Tryz.underlying149 (fun w => Tryz.sizeOf81 w) ky ky (by omega)))) ?_
      refine AllGhost.cons (g3_readM (v := fun g => .slice pv ((askK st st.rules.length l i).getD (l.getD i 0) []).length cv) (by decide) (by decide) (by decide) (by decide) ky (fun _ => by kernel_rfl) (fun _ => by kernel_rfl) (fun g w' h' => run_load1 (fun w => Tryz.isAgg81 w) ky ((h'.cell (l.getD i 0)).trans (avs_get hav)))) ?_
      refine AllGhost.cons (g3_read (v := fun g => .pointer (some ⟨b.p, 0, none⟩)) (by decide) (by decide) (by decide) ky (fun _ => by kernel_rfl) (fun _ => by kernel_rfl) (fun g _ _ => ky)) ?_
      refine AllGhost.cons (g3_read (v := fun g => .pointer (some ⟨b.p, 0, none⟩)) (by decide) (by decide) (by decide) ky (fun _ => by kernel_rfl) (fun _ => by kernel_rfl) (fun g _ _ => ky)) ?_
      refine AllGhost.cons (g3_read (v := fun g => .pointer (some ⟨b.p, 0, none⟩)) (by decide) (by decide) (by decide) ky (fun _ => by kernel_rfl) (fun _ => by kernel_rfl) (fun g _ _ => ky)) ?_
      refine AllGhost.cons (g3_read (v := fun g => .slice pr st.rules.length cr) (by decide) (by decide) (by decide) ky (fun _ => by kernel_rfl) (fun _ => by kernel_rfl) (fun g w' h' => run_load1 (fun w => Tryz.isAgg155 w) ky (((h'.get 0 rfl).cell 0).trans rfl))) ?_
      refine AllGhost.cons (g3_read (v := fun g => iN .i64 st.rules.length) (by decide) (by decide) (by decide) ky (fun _ => by kernel_rfl) (fun _ => by kernel_rfl) (fun g _ _ => ky)) ?_
      refine AllGhost.cons (g3_act0 (v := fun n => .slice (some ⟨n, 0, none⟩) 1 1) (by decide) (by decide) (by decide) (by decide) ky (fun _ => by kernel_rfl) (fun _ _ => by kernel_rfl) (fun g w' hr hr' h' => ⟨w'.heap.size, _, (by kernel_rfl : (execOp _ _).run Tryz.prog w' = .ok (.value (.slice (some ⟨w'.heap.size, 0, none⟩) 1 1)) (w'.alloc (.cells (intc [st.rules.length]) 3))), (h'.make 3 (intc [st.rules.length])).sub (List.Sublist.cons _ (List.Sublist.cons_cons _ (List.nil_sublist _))), hr'.alloc _, h'.make 3 (intc [st.rules.length])⟩)) ?_
      refine AllGhost.cons (g3_act1 (v := fun n => .slice (some ⟨(unp n).1, 0, none⟩) (((askK st st.rules.length l i).getD (l.getD i 0) []).length + 1) (unp n).2) (by decide) (by decide) (by decide) (by decide) ky (fun _ => by kernel_rfl) (fun _ _ => by kernel_rfl) (fun g w' hr hr' h' => app_step hv h' hr' ky ky (hsm i _))) ?_
      refine AllGhost.cons (g3_read (v := fun g => .pointer (some ⟨b.ab, l.getD i 0, none⟩)) (by decide) (by decide) (by decide) ky (fun _ => by kernel_rfl) (fun _ => by kernel_rfl) (fun g _ _ => (run_addr_slice (q := b.ab) (n := m) (m := m) (a := l.getD i 0) Tryz.underlying149 (fun w => Tryz.sizeOf81 w) ky ky (by omega)))) ?_
      refine AllGhost.cons (g3_act2 (by decide) ky (fun _ => by kernel_rfl) (fun _ => by kernel_rfl) (fun g w' hr hr' h' => by obtain ⟨C', h1, h2⟩ := h'; exact ⟨_, run_storev (fun w => Tryz.sizeOf81 w) ky ky ky (by rw [(h2.get 1 rfl).cell, avs_get hav]; rfl) ((h2.get 1 rfl).free _ (by simp [havs]; exact hxm)), (h2.put 1 rfl (l.getD i 0) _).sub (List.Sublist.cons_cons _ (List.nil_sublist _)), C', h1, by have := h2.put 1 rfl (l.getD i 0) (.slice (some ⟨(unp (g 18)).1, 0, none⟩) (((askK st st.rules.length l i).getD (l.getD i 0) []).length + 1) (unp (g 18)).2); rw [List.setIfInBounds_toArray] at this; exact this⟩)) ?_
      exact AllGhost.nil
    intro g w3 gg4
    have h5 := gg4.held
    rw [if_pos rfl] at h5
    clear gg4
    obtain ⟨C1, hC1, hH1⟩ := h5
    refine block_normal (then_at rfl (wl_region ?_))
    refine zu (iN .i64 (i + 1)) (run_add (k := .i64) (a := i) (b := 1) ky ky (by simp only [top]; omega)) ?_
    refine zv (iN .i64 (i + 1)) ?_
    refine wl_nil ?_
    exact then_I ⟨fun ii => (([(7, iN .i64 (l.getD i 0)), (11, .bool true), (12, .pointer (some ⟨pq, i, none⟩)), (13, iN .i64 (l.getD i 0)), (14, .pointer (some ⟨b.p, 0, none⟩)), (15, .pointer (some ⟨b.p, 0, none⟩)), (16, .pointer (some ⟨b.p, 1, none⟩)), (17, .slice (some ⟨b.ab, 0, none⟩) m m), (18, iN .i64 (l.getD i 0)), (19, .pointer (some ⟨b.p, 0, none⟩)), (20, .pointer (some ⟨b.p, 0, none⟩)), (21, .pointer (some ⟨b.p, 1, none⟩)), (22, .slice (some ⟨b.ab, 0, none⟩) m m), (23, iN .i64 (l.getD i 0)), (24, .pointer (some ⟨b.ab, l.getD i 0, none⟩)), (25, .slice pv ((askK st st.rules.length l i).getD (l.getD i 0) []).length cv), (26, .pointer (some ⟨b.p, 0, none⟩)), (27, .pointer (some ⟨b.p, 0, none⟩)), (28, .pointer (some ⟨b.p, 0, none⟩)), (29, .slice pr st.rules.length cr), (30, iN .i64 st.rules.length), (31, .slice (some ⟨g 17, 0, none⟩) 1 1), (32, .slice (some ⟨(unp (g 18)).1, 0, none⟩) (((askK st st.rules.length l i).getD (l.getD i 0) []).length + 1) (unp (g 18)).2), (33, .pointer (some ⟨b.ab, l.getD i 0, none⟩)), (34, iN .i64 (i + 1))] : List (Nat × Value)).find? (·.1 == ii)).elim undef (·.2), by kernel_rfl, _, _, (by rw [askK_step st st.rules.length l i hk]; exact hset _ _ C1 hC1), hH1⟩
  · rintro _ w6 ⟨u1, rfl, avs, La, hA, hH⟩
    refine wp_seq (wl_region ?_)
    refine zu (.bool false) (run_lss (k := .i64) (a := l.length) (b := l.length) ky ky false (decide_eq_false (by omega))) ?_
    refine wl_nil (then_at rfl (wp_seq ?_))
    refine wp_cond_false ky ?_
    refine wp_exit ?_
    repeat first | refine then_exit ?_ | refine block_exit ?_ | refine block_exit_ne (by decide) ?_
    refine then_at rfl (wp_seq (wl_region ?_))
    refine zv (.pointer (some ⟨b.p, 0, none⟩)) ?_
    refine zv (.pointer (some ⟨b.p, 0, none⟩)) ?_
    refine zv (.pointer (some ⟨b.p, 0, none⟩)) ?_
    refine zv (.pointer (some ⟨b.p, 0, none⟩)) ?_
    refine zu (.slice pr st.rules.length cr) (run_load1 (fun w => Tryz.isAgg155 w) ky (((hH.get 0 rfl).cell 0).trans rfl)) ?_
    refine zv (.slice o l.length cl) ?_
    refine zv (iN .i64 l.length) ?_
    refine zv (iN .i64 x) ?_
    refine zv (.agg #[iN .i64 l.length, iN .i64 x]) ?_
    refine wl_mks (n := 1) (m := 1) (c := #[iN .i64 l.length, iN .i64 x]) hH 210 ky ky ?_
    intro q7 w8 (h9 : HA z ((q7, 210, #[iN .i64 l.length, iN .i64 x]) :: (b.p, 157, wcell b m (.slice pr st.rules.length cr) (.slice pn st.next.length cn)) :: (b.ab, 81, avs.toArray) :: (b.kb, 4, boc st.known) :: (Lr ++ (Ln ++ (La ++ L)))) w8)
    have h10 : HA z ((q7, 210, #[iN .i64 l.length, iN .i64 x]) :: (Lr ++ (([(b.p, 157, wcell b m (.slice pr st.rules.length cr) (.slice pn st.next.length cn)), (b.ab, 81, avs.toArray), (b.kb, 4, boc st.known)]) ++ (Ln ++ (La ++ L))))) w8 := h9.perm (List.Perm.cons _ (perm_mv ([(b.p, 157, wcell b m (.slice pr st.rules.length cr) (.slice pn st.next.length cn)), (b.ab, 81, avs.toArray), (b.kb, 4, boc st.known)]) Lr (Ln ++ (La ++ L))))
    refine wl_append (m := 1) (c := 1) hR h10 (by decide) (.agg #[.int .i64 0, .int .i64 0]) 16 Tryz.underlying155 info125 rfl (by decide) ky ky ky rfl ky (by unfold maxLen; omega) (by omega) (by decide) ?_
    intro v1 w11 Lr1 hR1 h12
    obtain ⟨pr1, cr1, rfl⟩ := hR1.form
    have h13 : HA z ((b.p, 157, wcell b m (.slice pr st.rules.length cr) (.slice pn st.next.length cn)) :: (b.ab, 81, avs.toArray) :: (b.kb, 4, boc st.known) :: (Lr1 ++ (Ln ++ (La ++ L)))) w11 := HA.mv Lr1 ([(b.p, 157, wcell b m (.slice pr st.rules.length cr) (.slice pn st.next.length cn)), (b.ab, 81, avs.toArray), (b.kb, 4, boc st.known)]) (Ln ++ (La ++ L)) h12
    refine zv (.pointer (some ⟨b.p, 0, none⟩)) ?_
    refine zv (.pointer (some ⟨b.p, 0, none⟩)) ?_
    refine wl_putv (v := .slice pr1 (st.rules.length + 1) cr1) h13 0 rfl 0 (by show 0 < 4; decide) ky (fun w => Tryz.sizeOf155 w) ky ky ky ?_
    intro w14 (h15 : HA z ((b.p, 157, wcell b m (.slice pr1 (st.rules.length + 1) cr1) (.slice pn st.next.length cn)) :: (b.ab, 81, avs.toArray) :: (b.kb, 4, boc st.known) :: (Lr1 ++ (Ln ++ (La ++ L)))) w14)
    refine wl_nil (then_at rfl (wp_seq ?_))
    have hW1 : WH z b m ({ st with asked := askS st st.rules.length l, rules := st.rules ++ [((l.length : Int), x)] } : St) L w14 := ⟨_, _, avs, Lr1, Ln, La, by simpa [rcl, iN] using hR1, hN, by have := hA; unfold askK at this; rw [List.take_length] at this; exact this, h15⟩
    refine wl_region ?_
    refine zv (.slice o l.length cl) ?_
    refine zv (iN .i64 l.length) ?_
    refine zu (.bool false) (run_eqi (k := .i64) (a := l.length) (b := 0) ky ky false (decide_eq_false (by omega))) ?_
    refine wl_nil (then_at rfl ?_)
    refine wp_cond_false ky ?_
    refine wp_skip ?_
    exact bodyPost_end (v := .tuple #[]) ky rfl ⟨rfl, by rw [ruleS]; simp only [h0, if_false]; exact hW1⟩
theorem rule_any {z : Base} {b : Wb} {m : Nat} {st : St} {L : BL} {w : World} (H : WH z b m st L w) (hw : Wok m st) {x : Nat} (hx : x < m) (hm : m ≤ 100000) (l : List Nat) (o : Option Addr) (cl : Nat) (hl : Rd3 z L o l) (hlm : ∀ i, i < l.length → l.getD i 0 < m) (hs : siz st + l.length ≤ 1000000) :
    Calls Tryz.prog 124 #[pt b.p, iN .i64 x, .slice o l.length cl] w fun e w' => e = .returned (.tuple #[]) ∧ WH z b m (ruleS st x l) L w' := by
  have hnl := hw.nl
  have hsm : ∀ i y, ((askK st st.rules.length l i).getD y []).length ≤ 1000000 := fun i y => by
    have h1 := tot_get (askK st st.rules.length l i) y
    have h2 := tot_ask (k := st.rules.length) (l.take i) st.asked
    have h3 : (l.take i).length ≤ l.length := by rw [List.length_take]; omega
    unfold siz at hs
    unfold askK at h1 ⊢
    omega
  have hrl : st.rules.length ≤ 1000000 := by unfold siz at hs; omega
  by_cases h0 : l.length = 0
  · exact rule_a H hw hx (by omega) hrl l o cl hl hlm hsm (by omega) h0
  · exact rule_b H hw hx (by omega) hrl l o cl hl hlm hsm (by omega) h0
end Go.Proofs.YtcjjbpbehapjpaaGreat
