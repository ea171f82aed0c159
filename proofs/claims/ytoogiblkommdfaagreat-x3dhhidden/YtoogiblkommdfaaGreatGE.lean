/-
  What is told of a term that was made.
-/
import Derived.Test.YtoogiblkommdfaaGreatGD
set_option linter.unusedVariables false
namespace Go.Proofs.YtoogiblkommdfaaGreat
open Go.RowKit

def slu (n m : Nat) : Value := .slice (some ⟨(unp n).1, 0, none⟩) m (unp n).2
theorem clone_ints {w : World} (b : Nat) (ps : List Nat) (hb : Blk w b 3 (intc ps)) (hl : ps.length ≤ 1000) :
    Calls Tryz.prog 387 #[slv b ps.length] w fun e w' => ∃ n c, e = .returned (slu n ps.length) ∧ w.heap.size ≤ (unp n).1 ∧ Blk w' (unp n).1 3 c ∧ (∀ j, j < ps.length → c[j]? = some (iN .i64 (ps.getD j 0))) ∧ Below w.heap.size w w' := by
  refine (Tryz.slices_Clone_int b 0 ps.length ps.length (ps.map Int.ofNat) w (by simp) (by omega) (fun j hj => ?_)).mono ?_
  · have hj' : j < ps.length := by simpa using hj
    rw [Nat.zero_add, hb.cell j, intc_get ps j hj']
    simp [hj', iN]
  · rintro e w' ⟨v', rfl, ⟨_, hv⟩, hne, hbl⟩
    rcases hv with ⟨h1, h2⟩ | ⟨g, cap, cur, h1, h2, h3, h4, _, h5, h6⟩
    · exact absurd (by rw [h1]) hne
    · obtain ⟨n, hn⟩ := unp_all (g + cap) g cap rfl
      refine ⟨n, cur, by rw [h1, slu, hn], by rw [hn]; exact h2, by rw [hn]; exact ⟨(0, 0), h3, .inl rfl⟩, fun j hj => ?_, hbl⟩
      have e1 : (cur.toList.take (ps.length * 1))[j]? = (((ps.map Int.ofNat).take ps.length).map (Value.int .i64))[j]? := by rw [h6]
      rw [Nat.mul_one, List.getElem?_take, if_pos hj, List.getElem?_map, List.getElem?_take, if_pos hj, List.getElem?_map, List.getElem?_eq_getElem hj] at e1
      rw [List.getD_eq_getElem?_getD, List.getElem?_eq_getElem hj]
      simpa [iN] using e1
theorem told_row {z : Base} {L : BL} {w : World} (H : HA z L w) (b : Nat) (ps : List Nat) (hb : Blk w b 3 (intc ps)) (hl : ps.length ≤ 1000) :
    Calls Tryz.prog 387 #[slv b ps.length] w fun e w' => ∃ n, e = .returned (slu n ps.length) ∧ HA z L w' ∧ ∃ c, (∀ j, j < ps.length → c[j]? = some (iN .i64 (ps.getD j 0))) ∧ HA z (((unp n).1, 3, c) :: L) w' := by
  refine (clone_ints b ps hb hl).mono ?_
  rintro e w' ⟨n, c, rfl, h1, h2, h3, h4⟩
  have HL := H.keep w w' h4
  refine ⟨n, rfl, HL, c, h3, HL.consNew h2 (Nat.le_trans H.old.old.size h1) (fun x hx e => ?_)⟩
  have := (H.blk x hx).lt
  omega
section
variable {ops : Array Oper} {Q : Exit → Act → World → Prop} {F : (Nat → Nat) → Act} {i i0 i1 i2 : Nat} {dst : Option Tmp} {ty : TypeId} {pos : String} {aft : Array Edge} {gd : Option (Nat × Bool)}
  {R R' P0 : World → Prop} {P1 : Nat → World → Prop} {P2 P3 : Nat → Nat → World → Prop} {pre : Nat → List Nat}
theorem g3_call {f : FuncId} {xs : Array Operand} {ats : Array TypeId} {v : (Nat → Nat) → Value} {args : (Nat → Nat) → Array Value} (sR : Stab R) (sR' : Stab R') (s0 : Stab P0) (s1 : ∀ n, Stab (P1 n)) (s2 : ∀ n m, Stab (P2 n m)) (s3 : ∀ n m, Stab (P3 n m)) (h0 : i ≠ i0) (h1 : i ≠ i1) (h2 : i ≠ i2) (he : ahead aft (pre i) = true)
    (hw : ∀ g, Region.wanted ⟨dst, .call { callee := .value (.func f), args := xs, argTypes := ats }, ty, pos, aft, gd⟩ (yielded ops (F g).tmps) = true) (hp : ∀ g, (F g).put dst (v g) = F g)
    (hr : ∀ args w, (callFunc f args).run Tryz.prog w = .ok (.enter f args) w) (ha : ∀ g, #[] ++ xs.map (F g).eval ++ #[] = args g)
    (hc : ∀ g w, R w → Calls Tryz.prog f (args g) w fun e w' => e = .returned (v g) ∧ Below w.heap.size w w') : OpGhost Tryz.prog .any ops Q (G3 R R' P0 P1 P2 P3 pre i0 i1 i2) F i ⟨dst, .call { callee := .value (.func f), args := xs, argTypes := ats }, ty, pos, aft, gd⟩ :=
  OpGhost.call (v := v) (args := args) hw hp (fun g w => by rw [execOp_call_go, ha g]; exact hr _ w) (fun g _ w h ha => (hc g w h.all).mono fun e w' h' => ⟨h'.1, sR _ _ h'.2 h.all, fun e => sR' _ _ h'.2 (h.mid (by rwa [up_ne _ _ (Ne.symm h2)] at e)), by
    rw [up_ne _ _ (Ne.symm h0), up_ne _ _ (Ne.symm h1), up_ne _ _ (Ne.symm h2)]
    have := h.held
    split
    · rename_i k1; rw [if_pos k1] at this; exact s3 _ _ _ _ h'.2 this
    · rename_i k1; rw [if_neg k1] at this
      split
      · rename_i k2; rw [if_pos k2] at this; exact s2 _ _ _ _ h'.2 this
      · rename_i k2; rw [if_neg k2] at this
        split
        · rename_i k3; rw [if_pos k3] at this; exact s1 _ _ _ h'.2 this
        · rename_i k3; rw [if_neg k3] at this; exact s0 _ _ h'.2 this, h.seen.up (ahead_ok he ha)⟩)
theorem g3_call0 {f : FuncId} {xs : Array Operand} {ats : Array TypeId} {v : Nat → Value} {args : Array Value} (h01 : i0 ≠ i1) (h02 : i0 ≠ i2) (h1 : i0 ∈ pre i1) (h2 : i0 ∈ pre i2) (he : ahead aft (pre i0) = true)
    (hw : ∀ g, Region.wanted ⟨dst, .call { callee := .value (.func f), args := xs, argTypes := ats }, ty, pos, aft, gd⟩ (yielded ops (F g).tmps) = true) (hp : ∀ g n, (F g).put dst (v n) = F (up g i0 n))
    (hr : ∀ args w, (callFunc f args).run Tryz.prog w = .ok (.enter f args) w) (ha : ∀ g, #[] ++ xs.map (F g).eval ++ #[] = args)
    (hc : ∀ w, R w → R' w → P0 w → Calls Tryz.prog f args w fun e w' => ∃ n, e = .returned (v n) ∧ R w' ∧ R' w' ∧ P1 n w') : OpGhost Tryz.prog .any ops Q (G3 R R' P0 P1 P2 P3 pre i0 i1 i2) F i0 ⟨dst, .call { callee := .value (.func f), args := xs, argTypes := ats }, ty, pos, aft, gd⟩ := fun g d w h hdi haft => by
  rw [if_pos (hw g)]
  unfold Oper.wp
  have e0 : ¬ d i0 = true := by rw [hdi]; decide
  have e1 : ¬ d i1 = true := fun h' => e0 (h.seen i1 h' i0 h1)
  have e2 : ¬ d i2 = true := fun h' => e0 (h.seen i2 h' i0 h2)
  have hH := h.held
  rw [if_neg e2, if_neg e1, if_neg e0] at hH
  rw [execOp_call_go, ha g, hr]
  refine (hc w h.all (h.mid (by simpa using e2)) hH).mono ?_
  rintro e w' ⟨n, rfl, hR, hR', hP⟩
  exact ⟨n, hp g n, hR, fun _ => hR', by rw [up_ne _ _ (Ne.symm h02), if_neg e2, up_ne _ _ (Ne.symm h01), if_neg e1, up_at, if_pos rfl, up_at]; exact hP, h.seen.up (ahead_ok he haft)⟩
end
set_option maxRecDepth 100000 in
set_option maxHeartbeats 2000000 in
theorem told_mk {w : World} (k n : Nat) (s : ByteArray) (ps : List Nat) (b : Nat) (hb : Blk w b 3 (intc ps)) (hl : ps.length ≤ 100) (hs : s.size ≤ 281474976710656) :
    Calls Tryz.prog 386 #[mkv k n s b ps.length] w fun e w' => ∃ m c, e = .returned (.agg #[iN .i64 k, iN .i64 n, .string s, slu m ps.length]) ∧ w.heap.size ≤ (unp m).1 ∧ Blk w' (unp m).1 3 c ∧ (∀ j, j < ps.length → c[j]? = some (iN .i64 (ps.getD j 0))) ∧ Below w.heap.size w w' := by
  have H0 := HA.start w
  go_enter Tryz.func386, Tryz.ntmps386
  refine wp_seq (wl_region ?_)
  refine wl_make (c := #[iN .i64 k, iN .i64 n, .string s, .slice (some ⟨b, 0, none⟩) ps.length ps.length]) H0 190 ky ky ?_
  intro q1 w2 (h3 : HA (bs w) [(q1, 190, #[iN .i64 k, iN .i64 n, .string s, .slice (some ⟨b, 0, none⟩) ps.length ps.length])] w2)
  refine wl_make (c := #[iN .i64 0, iN .i64 0, .string ({ data := #[] }), .slice none 0 0]) h3 166 ky ky ?_
  intro q4 w5 (h6 : HA (bs w) [(q4, 166, #[iN .i64 0, iN .i64 0, .string ({ data := #[] }), .slice none 0 0]), (q1, 190, #[iN .i64 k, iN .i64 n, .string s, .slice (some ⟨b, 0, none⟩) ps.length ps.length])] w5)
  refine wl_nil (then_at rfl (wp_seq ?_))
  refine wp_region_ghost (fun g : Nat → Nat => (⟨(.agg #[iN .i64 k, iN .i64 n, .string s, .slice (some ⟨b, 0, none⟩) ps.length ps.length] :: pt q1 :: pt q4 :: pt q1 :: iN .i64 k :: .pointer (some ⟨q1, 1, none⟩) :: iN .i64 n :: .pointer (some ⟨q1, 2, none⟩) :: .string s :: .string s :: .pointer (some ⟨q1, 3, none⟩) :: .slice (some ⟨b, 0, none⟩) ps.length ps.length :: slu (g 9) ps.length :: .agg #[iN .i64 k, iN .i64 n, .string s, slu (g 10) ps.length] :: List.replicate 0 un).toArray, []⟩ : Act)) (G3 (HA (bs w) [(q1, 190, #[iN .i64 k, iN .i64 n, .string s, .slice (some ⟨b, 0, none⟩) ps.length ps.length])]) (fun _ => True) (fun w' => HA (bs w) ((q4, 166, #[iN .i64 0, iN .i64 0, .string ({ data := #[] }), .slice none 0 0]) :: (q1, 190, #[iN .i64 k, iN .i64 n, .string s, .slice (some ⟨b, 0, none⟩) ps.length ps.length]) :: []) w') (fun m w' => ∃ c, (∀ j, j < ps.length → c[j]? = some (iN .i64 (ps.getD j 0))) ∧ HA (bs w) (((unp m).1, 3, c) :: (q4, 166, #[iN .i64 0, iN .i64 0, .string ({ data := #[] }), .slice none 0 0]) :: (q1, 190, #[iN .i64 k, iN .i64 n, .string s, .slice (some ⟨b, 0, none⟩) ps.length ps.length]) :: []) w') (fun m0 m w' => m0 = m ∧ ∃ c, (∀ j, j < ps.length → c[j]? = some (iN .i64 (ps.getD j 0))) ∧ HA (bs w) (((unp m).1, 3, c) :: (q4, 166, #[iN .i64 0, iN .i64 0, .string ({ data := #[] }), .slice none 0 0]) :: (q1, 190, #[iN .i64 k, iN .i64 n, .string s, .slice (some ⟨b, 0, none⟩) ps.length ps.length]) :: []) w') (fun _ m w' => ∃ c, (∀ j, j < ps.length → c[j]? = some (iN .i64 (ps.getD j 0))) ∧ HA (bs w) (((unp m).1, 3, c) :: (q4, 166, #[iN .i64 k, iN .i64 n, .string s, slu m ps.length]) :: (q1, 190, #[iN .i64 k, iN .i64 n, .string s, .slice (some ⟨b, 0, none⟩) ps.length ps.length]) :: []) w') (fun i => ([[], [], [], [], [], [], [], [], [], [], [9], [9, 10]] : List (List Nat)).getD i []) 9 10 11) [.pointer (some ⟨q1, 0, none⟩), iN .i64 k, .pointer (some ⟨q1, 1, none⟩), iN .i64 n, .pointer (some ⟨q1, 2, none⟩), .string s, .string s, .pointer (some ⟨q1, 3, none⟩), .slice (some ⟨b, 0, none⟩) ps.length ps.length, slu 0 ps.length, .agg #[iN .i64 k, iN .i64 n, .string s, slu 0 ps.length], undef] ky ky ky ky (fun _ _ _ _ h => h) (fun d hd => G3.start (h6.drew.tl) trivial h6.drew (hd 9 (by decide)) (hd 10 (by decide)) (hd 11 (by decide)) (Cl.start (n := 12) hd (by decide))) ?_ ?_
  · refine AllGhost.cons (g3_read (v := fun g => .pointer (some ⟨q1, 0, none⟩)) (by decide) (by decide) (by decide) ky (fun _ => by kernel_rfl) (fun _ => by kernel_rfl) (fun g _ _ => ky)) ?_
    refine AllGhost.cons (g3_read (v := fun g => iN .i64 k) (by decide) (by decide) (by decide) ky (fun _ => by kernel_rfl) (fun _ => by kernel_rfl) (fun g w' h' => run_load1 (fun w => Tryz.isAgg3 w) ky (((h'.get 0 rfl).cell 0).trans rfl))) ?_
    refine AllGhost.cons (g3_read (v := fun g => .pointer (some ⟨q1, 1, none⟩)) (by decide) (by decide) (by decide) ky (fun _ => by kernel_rfl) (fun _ => by kernel_rfl) (fun g _ _ => ky)) ?_
    refine AllGhost.cons (g3_read (v := fun g => iN .i64 n) (by decide) (by decide) (by decide) ky (fun _ => by kernel_rfl) (fun _ => by kernel_rfl) (fun g w' h' => run_load1 (fun w => Tryz.isAgg3 w) ky (((h'.get 0 rfl).cell 1).trans rfl))) ?_
    refine AllGhost.cons (g3_read (v := fun g => .pointer (some ⟨q1, 2, none⟩)) (by decide) (by decide) (by decide) ky (fun _ => by kernel_rfl) (fun _ => by kernel_rfl) (fun g _ _ => ky)) ?_
    refine AllGhost.cons (g3_read (v := fun g => .string s) (by decide) (by decide) (by decide) ky (fun _ => by kernel_rfl) (fun _ => by kernel_rfl) (fun g w' h' => run_load1 (fun w => Tryz.isAgg9 w) ky (((h'.get 0 rfl).cell 2).trans rfl))) ?_
    refine AllGhost.cons (g3_call (v := fun g => .string s) (args := fun g => #[.string s]) Stab.ha (fun _ _ _ h => h) Stab.ha (fun _ => (fun _ _ hb ⟨c, h1, h2⟩ => ⟨c, h1, h2.keep _ _ hb⟩)) (fun _ _ => (fun _ _ hb ⟨h0, c, h1, h2⟩ => ⟨h0, c, h1, h2.keep _ _ hb⟩)) (fun _ _ => (fun _ _ hb ⟨c, h1, h2⟩ => ⟨c, h1, h2.keep _ _ hb⟩)) (by decide) (by decide) (by decide) ky (fun _ => by kernel_rfl) (fun _ => by kernel_rfl) enter113 (fun _ => by kernel_rfl) (fun g w' h' => clone_any s hs w')) ?_
    refine AllGhost.cons (g3_read (v := fun g => .pointer (some ⟨q1, 3, none⟩)) (by decide) (by decide) (by decide) ky (fun _ => by kernel_rfl) (fun _ => by kernel_rfl) (fun g _ _ => ky)) ?_
    refine AllGhost.cons (g3_read (v := fun g => .slice (some ⟨b, 0, none⟩) ps.length ps.length) (by decide) (by decide) (by decide) ky (fun _ => by kernel_rfl) (fun _ => by kernel_rfl) (fun g w' h' => run_load1 (fun w => Tryz.isAgg84 w) ky (((h'.get 0 rfl).cell 3).trans rfl))) ?_
    refine AllGhost.cons (g3_call0 (v := fun m => slu m ps.length) (args := #[slv b ps.length]) (by decide) (by decide) (by decide) (by decide) ky (fun _ => by kernel_rfl) (fun _ _ => by kernel_rfl) enter387 (fun _ => by kernel_rfl) (fun w' hR _ h0 => (told_row h0 b ps (hb.keep h0.old.old) (by omega)).mono (fun e w2 ⟨m, h1, h2, c, h3, h4⟩ => ⟨m, h1, h2.tl, trivial, c, h3, h4⟩))) ?_
    refine AllGhost.cons (g3_act1 (v := fun m => .agg #[iN .i64 k, iN .i64 n, .string s, slu m ps.length]) (by decide) (by decide) (by decide) (by decide) ky (fun _ => by kernel_rfl) (fun _ _ => by kernel_rfl) (fun g w' hr _ h' => ⟨g 9, w', ky, hr, trivial, rfl, h'⟩)) ?_
    refine AllGhost.cons (g3_act2 (by decide) ky (fun _ => by kernel_rfl) (fun _ => by kernel_rfl) (fun g w' _ _ ⟨_, c, hc, h'⟩ => ⟨_, run_store_blk (c' := #[iN .i64 k, iN .i64 n, .string s, slu (g 10) ps.length]) ky ky (h'.get 1 rfl) rfl ky ky, (h'.fill (c' := #[iN .i64 k, iN .i64 n, .string s, slu (g 10) ps.length]) 1 rfl rfl).tl.tl, c, hc, h'.fill (c' := #[iN .i64 k, iN .i64 n, .string s, slu (g 10) ps.length]) 1 rfl rfl⟩)) ?_
    exact AllGhost.nil
  intro g w7 gg8
  have h9 := gg8.held
  rw [if_pos rfl] at h9
  clear gg8
  obtain ⟨c2, hc2, hH2⟩ := h9
  refine then_at rfl ?_
  refine wp_ret ?_
  repeat first | refine then_ret ?_ | refine block_ret ?_
  exact bodyPost_ret (v := .agg #[iN .i64 k, iN .i64 n, .string s, slu (g 10) ps.length]) (res_cell (p := 2) ky ky (hH2.get 1 rfl) Tryz.underlying166 rfl ky) rfl ⟨(g 10), c2, rfl, hH2.own _ (List.mem_cons_self ..), hH2.get 0 rfl, hc2, hH2.old.old⟩
set_option maxRecDepth 100000 in
theorem enterM125 (rv : Value) (w : World) : (callMethod (.iface 190 rv) "missive/term.told" #[]).run Tryz.prog w = .ok (.enter 386 #[rv]) w := by kernel_rfl
theorem wl_told {ops : Array Oper} {Q : Exit → Act → World → Prop} {a : Act} {rest : List Oper} {dst : Option Tmp} {ty : TypeId} {pos : String} {aft : Array Edge} {gd : Option (Nat × Bool)} {w : World} {f : FuncId} {x : Operand} {T : TypeId} {rv : Value} {R : Ending → World → Prop}
    (hw : Region.wanted ⟨dst, .call { callee := .invoke x "missive/term.told", args := #[], argTypes := #[] }, ty, pos, aft, gd⟩ (yielded ops a.tmps) = true)
    (hr : ∀ rv w, (callMethod (.iface T rv) "missive/term.told" #[]).run Tryz.prog w = .ok (.enter f #[rv]) w) (hx : a.eval x = .iface T rv) (hc : Calls Tryz.prog f #[rv] w R)
    (h : ∀ e w', R e w' → ∃ v, e = .returned v ∧ WL Tryz.prog ops Q rest (a.put dst v) w') : WL Tryz.prog ops Q (⟨dst, .call { callee := .invoke x "missive/term.told", args := #[], argTypes := #[] }, ty, pos, aft, gd⟩ :: rest) a w := by
  have hrun : (execOp a.eval ⟨dst, .call { callee := .invoke x "missive/term.told", args := #[], argTypes := #[] }, ty, pos, aft, gd⟩).run Tryz.prog w = .ok (.enter f #[rv]) w := by
    simp only [execOp, resolve, invoke, Sem.run_bind, Sem.run_pure, Result.andThen_ok]
    simp only [hx, Array.map_empty, Array.append_empty]
    exact hr rv w
  refine ⟨?_⟩
  unfold wpList
  rw [if_pos hw]
  refine .inl ?_
  unfold Oper.wp
  rw [hrun]
  refine hc.mono ?_
  intro e w' hR
  obtain ⟨v, rfl, hv⟩ := h e w' hR
  exact hv.out
set_option maxRecDepth 100000 in
set_option maxHeartbeats 2000000 in
theorem Of_blk {w : World} {q : Nat} {t : Tb} {n0 m cap g x : Nat} {cur : Array Value} {sx : ByteArray} (hq : Blk w q 145 (tcell t n0 (.slice (some ⟨g, 0, none⟩) m cap))) (hg : Blk w g 150 cur) (hm : m ≤ 65536) (hx : x < m) (hn : numT m sx = some x) {k n b : Nat} {s : ByteArray} {ps : List Nat} (hc : cur[x]? = some (ev (.mk k n s ps b))) (hb : Blk w b 3 (intc ps)) (hl : ps.length ≤ 100) (hsz : s.size ≤ 281474976710656) :
    Calls Tryz.prog 377 #[pt q, .string sx] w fun e w' => ∃ mm c, e = .returned (.tuple #[.agg #[iN .i64 k, iN .i64 n, .string s, slu mm ps.length], .bool true]) ∧ w.heap.size ≤ (unp mm).1 ∧ Blk w' (unp mm).1 3 c ∧ (∀ j, j < ps.length → c[j]? = some (iN .i64 (ps.getD j 0))) ∧ Below w.heap.size w w' := by
  have H0 := HA.start w
  go_enter Tryz.func377, Tryz.ntmps377
  refine wp_seq (wl_region ?_)
  refine wl_make (c := #[iN .i64 0, iN .i64 0, .string ({ data := #[] }), .slice none 0 0]) H0 166 ky ky ?_
  intro q1 w2 (h3 : HA (bs w) [(q1, 166, #[iN .i64 0, iN .i64 0, .string ({ data := #[] }), .slice none 0 0])] w2)
  refine zv (.bool false) ?_
  refine wl_nil (then_at rfl (wp_seq (wl_region ?_)))
  refine zv (.pointer (some ⟨q, 0, none⟩)) ?_
  refine zv (.string sx) ?_
  refine wl_call (v := .tuple #[iN .i64 x, .bool true]) h3 ky enter382 #[.pointer (some ⟨q, 0, none⟩), .string sx] ky (by have := num_any (hq.keep h3.old.old) hm sx; rw [hn] at this; exact this) ?_
  intro w4 h5
  refine zv (.tuple #[iN .i64 x, .bool true]) ?_
  refine zv (iN .i64 x) ?_
  refine zv (.bool true) ?_
  refine zv (iN .i64 x) ?_
  refine zv (.bool true) ?_
  refine wl_nil (then_at rfl (wp_seq (wp_seq (wl_region ?_))))
  refine zv (.bool true) ?_
  refine zv (.bool false) ?_
  refine wl_nil (then_at rfl ?_)
  refine wp_cond_false ky ?_
  refine wp_skip (then_at rfl (wp_seq (wl_region ?_)))
  refine zv (.pointer (some ⟨q, 0, none⟩)) ?_
  refine zv (.pointer (some ⟨q, 0, none⟩)) ?_
  refine zv (.pointer (some ⟨q, 0, none⟩)) ?_
  refine zu (.slice (some ⟨g, 0, none⟩) m cap) (run_load1 (fun w => Tryz.isAgg141 w) ky (((hq.keep h5.old.old).cell 0).trans rfl)) ?_
  refine zv (iN .i64 x) ?_
  refine zu (.pointer (some ⟨g, x, none⟩)) (run_addr_slice (q := g) (n := m) (m := cap) (a := x) Tryz.underlying141 (fun w => Tryz.sizeOf150 w) ky ky (by omega)) ?_
  refine zu (.iface 190 (.agg #[iN .i64 k, iN .i64 n, .string s, .slice (some ⟨b, 0, none⟩) ps.length ps.length])) (run_load1 (fun w => Tryz.isAgg150 w) ky (((hg.keep h5.old.old).cell x).trans hc)) ?_
  refine wl_told (rv := mkv k n s b ps.length) ky enterM125 ky (told_mk k n s ps b (hb.keep h5.old.old) hl hsz) ?_
  rintro _ w6 ⟨mm, cc, rfl, hr1, hr2, hr3, hbb⟩
  refine ⟨_, rfl, ?_⟩
  have h7 := HA.keep _ _ h5 hbb
  have h8 : HA (bs w) [((unp mm).1, 3, cc), (q1, 166, #[iN .i64 0, iN .i64 0, .string ({ data := #[] }), .slice none 0 0])] w6 := h7.consNew hr2 (Nat.le_trans h5.old.old.size hr1) (fun x hx e => by have := (h5.blk x hx).lt; omega)
  refine wl_fill (c' := #[iN .i64 k, iN .i64 n, .string s, slu mm ps.length]) h8 1 rfl ky ky ky rfl ky ky ?_
  intro w9 (h10 : HA (bs w) [((unp mm).1, 3, cc), (q1, 166, #[iN .i64 k, iN .i64 n, .string s, slu mm ps.length])] w9)
  refine zv (.bool true) ?_
  refine wl_nil (then_at rfl ?_)
  refine wp_ret ?_
  repeat first | refine then_ret ?_ | refine block_ret ?_
  exact bodyPost_ret (v := .tuple #[.agg #[iN .i64 k, iN .i64 n, .string s, slu mm ps.length], .bool true]) (res_cell_tmp (p := 4) (r := 5) ky ky ky (h10.get 1 rfl) Tryz.underlying166 rfl ky) rfl ⟨mm, cc, rfl, h10.own _ (List.mem_cons_self ..), h10.get 0 rfl, hr3, h10.old.old⟩
set_option maxRecDepth 100000 in
set_option maxHeartbeats 2000000 in
theorem Of_no {w : World} {q : Nat} {t : Tb} {n0 m cap : Nat} {p : Option Addr} {sx : ByteArray} (hq : Blk w q 145 (tcell t n0 (.slice p m cap))) (hm : m ≤ 65536) (hn : numT m sx = none) :
    Calls Tryz.prog 377 #[pt q, .string sx] w fun e w' => e = .returned (.tuple #[.agg #[iN .i64 0, iN .i64 0, .string { data := #[] }, .slice none 0 0], .bool false]) ∧ Below w.heap.size w w' := by
  have H0 := HA.start w
  go_enter Tryz.func377, Tryz.ntmps377
  refine wp_seq (wl_region ?_)
  refine wl_make (c := #[iN .i64 0, iN .i64 0, .string ({ data := #[] }), .slice none 0 0]) H0 166 ky ky ?_
  intro q1 w2 (h3 : HA (bs w) [(q1, 166, #[iN .i64 0, iN .i64 0, .string ({ data := #[] }), .slice none 0 0])] w2)
  refine zv (.bool false) ?_
  refine wl_nil (then_at rfl (wp_seq (wl_region ?_)))
  refine zv (.pointer (some ⟨q, 0, none⟩)) ?_
  refine zv (.string sx) ?_
  refine wl_call (v := .tuple #[iN .i64 0, .bool false]) h3 ky enter382 #[.pointer (some ⟨q, 0, none⟩), .string sx] ky (by have := num_any (hq.keep h3.old.old) hm sx; rw [hn] at this; exact this) ?_
  intro w4 h5
  refine zv (.tuple #[iN .i64 0, .bool false]) ?_
  refine zv (iN .i64 0) ?_
  refine zv (.bool false) ?_
  refine zv (iN .i64 0) ?_
  refine zv (.bool false) ?_
  refine wl_nil (then_at rfl (wp_seq (wp_seq (wl_region ?_))))
  refine zv (.bool false) ?_
  refine zv (.bool true) ?_
  refine wl_nil (then_at rfl ?_)
  refine wp_cond_true ky ?_
  refine wp_seq (wl_region ?_)
  refine zv (.agg #[iN .i64 0, iN .i64 0, .string ({ data := #[] }), .slice none 0 0]) ?_
  refine wl_fill (c' := #[iN .i64 0, iN .i64 0, .string ({ data := #[] }), .slice none 0 0]) h5 0 rfl ky ky ky rfl ky ky ?_
  intro w6 (h7 : HA (bs w) [(q1, 166, #[iN .i64 0, iN .i64 0, .string ({ data := #[] }), .slice none 0 0])] w6)
  refine zv (.bool false) ?_
  refine wl_nil (then_at rfl ?_)
  refine wp_ret ?_
  repeat first | refine then_ret ?_ | refine block_ret ?_
  exact bodyPost_ret (v := .tuple #[.agg #[iN .i64 0, iN .i64 0, .string { data := #[] }, .slice none 0 0], .bool false]) (res_cell_tmp (p := 4) (r := 5) ky ky ky (h7.get 0 rfl) Tryz.underlying166 rfl ky) rfl ⟨rfl, h7.old.old⟩
end Go.Proofs.YtoogiblkommdfaaGreat

namespace Go.Proofs.YtoogiblkommdfaaGreat
open Go.RowKit

theorem Of_made {w : World} {t : Tb} {es : List Ent} (h : TV w t es) (hwf : Wf es) {sx : ByteArray} {x : Nat} (hn : numT es.length sx = some x) {k n b : Nat} {s : ByteArray} {ps : List Nat} (he : es[x]? = some (.mk k n s ps b)) (hsz : s.size ≤ 281474976710656) :
    Calls Tryz.prog 377 #[pt t.q, .string sx] w fun e w' => ∃ mm c, e = .returned (.tuple #[.agg #[iN .i64 k, iN .i64 n, .string s, slu mm ps.length], .bool true]) ∧ w.heap.size ≤ (unp mm).1 ∧ Blk w' (unp mm).1 3 c ∧ (∀ j, j < ps.length → c[j]? = some (iN .i64 (ps.getD j 0))) ∧ Below w.heap.size w w' := by
  obtain ⟨v, hq, h2⟩ := h.row
  have hp : x < es.length := (List.getElem?_eq_some_iff.1 he).1
  rcases h2 with ⟨e1, _⟩ | ⟨g, cap, cur, rfl, hg, hcur⟩
  · rw [e1] at hp; exact absurd hp (by simp)
  · exact Of_blk hq hg (by have := hwf.few; omega) hp hn (row_get hcur he) (h.pbs _ (pb_mem he)) (hwf.len x k n s ps b he) hsz
theorem Of_not {w : World} {t : Tb} {es : List Ent} (h : TV w t es) (hwf : Wf es) {sx : ByteArray} (hn : numT es.length sx = none) :
    Calls Tryz.prog 377 #[pt t.q, .string sx] w fun e w' => e = .returned (.tuple #[.agg #[iN .i64 0, iN .i64 0, .string { data := #[] }, .slice none 0 0], .bool false]) ∧ Below w.heap.size w w' := by
  obtain ⟨v, hq, h2⟩ := h.row
  have hm := hwf.few
  rcases h2 with ⟨e1, rfl⟩ | ⟨g, cap, cur, rfl, hg, hcur⟩
  · refine Of_no (m := 0) hq (by omega) ?_
    rw [e1] at hn
    exact hn
  · exact Of_no hq (by omega) hn
end Go.Proofs.YtoogiblkommdfaaGreat

namespace Go.Proofs.YtoogiblkommdfaaGreat
open Go.RowKit

set_option maxRecDepth 100000 in
set_option maxHeartbeats 2000000 in
theorem told_nm {w : World} (x : Nat) :
    Calls Tryz.prog 384 #[.agg #[iN .i64 x]] w fun e w' => e = .returned (.agg #[iN .i64 1, iN .i64 x, .string { data := #[] }, .slice none 0 0]) ∧ Below w.heap.size w w' := by
  have H0 := HA.start w
  go_enter Tryz.func384, Tryz.ntmps384
  refine wp_seq (wl_region ?_)
  refine wl_make (c := #[iN .i64 x]) H0 185 ky ky ?_
  intro q1 w2 (h3 : HA (bs w) [(q1, 185, #[iN .i64 x])] w2)
  refine wl_make (c := #[iN .i64 0, iN .i64 0, .string ({ data := #[] }), .slice none 0 0]) h3 166 ky ky ?_
  intro q4 w5 (h6 : HA (bs w) [(q4, 166, #[iN .i64 0, iN .i64 0, .string ({ data := #[] }), .slice none 0 0]), (q1, 185, #[iN .i64 x])] w5)
  refine wl_nil (then_at rfl (wp_seq (wl_region ?_)))
  refine zv (.pointer (some ⟨q1, 0, none⟩)) ?_
  refine zu (iN .i64 x) (run_load1 (fun w => Tryz.isAgg3 w) ky (((h6.get 1 rfl).cell 0).trans rfl)) ?_
  refine zv (.agg #[iN .i64 1, iN .i64 x, .string ({ data := #[] }), .slice none 0 0]) ?_
  refine wl_fill (c' := #[iN .i64 1, iN .i64 x, .string ({ data := #[] }), .slice none 0 0]) h6 0 rfl ky ky ky rfl ky ky ?_
  intro w7 (h8 : HA (bs w) [(q4, 166, #[iN .i64 1, iN .i64 x, .string ({ data := #[] }), .slice none 0 0]), (q1, 185, #[iN .i64 x])] w7)
  refine wl_nil (then_at rfl ?_)
  refine wp_ret ?_
  repeat first | refine then_ret ?_ | refine block_ret ?_
  exact bodyPost_ret (v := .agg #[iN .i64 1, iN .i64 x, .string { data := #[] }, .slice none 0 0]) (res_cell (p := 2) ky ky (h8.get 0 rfl) Tryz.underlying166 rfl ky) rfl ⟨rfl, h8.old.old⟩
set_option maxRecDepth 100000 in
set_option maxHeartbeats 2000000 in
theorem told_dt {w : World} (s : ByteArray) (hs : s.size ≤ 281474976710656) :
    Calls Tryz.prog 385 #[.agg #[.string s]] w fun e w' => e = .returned (.agg #[iN .i64 2, iN .i64 0, .string s, .slice none 0 0]) ∧ Below w.heap.size w w' := by
  have H0 := HA.start w
  go_enter Tryz.func385, Tryz.ntmps385
  refine wp_seq (wl_region ?_)
  refine wl_make (c := #[.string s]) H0 187 ky ky ?_
  intro q1 w2 (h3 : HA (bs w) [(q1, 187, #[.string s])] w2)
  refine wl_make (c := #[iN .i64 0, iN .i64 0, .string ({ data := #[] }), .slice none 0 0]) h3 166 ky ky ?_
  intro q4 w5 (h6 : HA (bs w) [(q4, 166, #[iN .i64 0, iN .i64 0, .string ({ data := #[] }), .slice none 0 0]), (q1, 187, #[.string s])] w5)
  refine wl_nil (then_at rfl (wp_seq (wl_region ?_)))
  refine zv (.pointer (some ⟨q1, 0, none⟩)) ?_
  refine zu (.string s) (run_load1 (fun w => Tryz.isAgg9 w) ky (((h6.get 1 rfl).cell 0).trans rfl)) ?_
  refine wl_call (v := .string s) h6 ky enter113 #[.string s] ky (clone_any s hs w5) ?_
  intro w7 h8
  refine zv (.agg #[iN .i64 2, iN .i64 0, .string s, .slice none 0 0]) ?_
  refine wl_fill (c' := #[iN .i64 2, iN .i64 0, .string s, .slice none 0 0]) h8 0 rfl ky ky ky rfl ky ky ?_
  intro w9 (h10 : HA (bs w) [(q4, 166, #[iN .i64 2, iN .i64 0, .string s, .slice none 0 0]), (q1, 187, #[.string s])] w9)
  refine wl_nil (then_at rfl ?_)
  refine wp_ret ?_
  repeat first | refine then_ret ?_ | refine block_ret ?_
  exact bodyPost_ret (v := .agg #[iN .i64 2, iN .i64 0, .string s, .slice none 0 0]) (res_cell (p := 2) ky ky (h10.get 0 rfl) Tryz.underlying166 rfl ky) rfl ⟨rfl, h10.old.old⟩
set_option maxRecDepth 100000 in
theorem enterM123 (rv : Value) (w : World) : (callMethod (.iface 185 rv) "missive/term.told" #[]).run Tryz.prog w = .ok (.enter 384 #[rv]) w := by kernel_rfl
set_option maxRecDepth 100000 in
theorem enterM127 (rv : Value) (w : World) : (callMethod (.iface 187 rv) "missive/term.told" #[]).run Tryz.prog w = .ok (.enter 385 #[rv]) w := by kernel_rfl
set_option maxRecDepth 100000 in
set_option maxHeartbeats 2000000 in
theorem Of_nm {w : World} {q : Nat} {t : Tb} {n0 m cap g x : Nat} {cur : Array Value} {sx : ByteArray} (hq : Blk w q 145 (tcell t n0 (.slice (some ⟨g, 0, none⟩) m cap))) (hg : Blk w g 150 cur) (hm : m ≤ 65536) (hx : x < m) (hn : numT m sx = some x) {y : Nat} (hc : cur[x]? = some (ev (.nm y))) :
    Calls Tryz.prog 377 #[pt q, .string sx] w fun e w' => e = .returned (.tuple #[.agg #[iN .i64 1, iN .i64 y, .string { data := #[] }, .slice none 0 0], .bool true]) ∧ Below w.heap.size w w' := by
  have H0 := HA.start w
  go_enter Tryz.func377, Tryz.ntmps377
  refine wp_seq (wl_region ?_)
  refine wl_make (c := #[iN .i64 0, iN .i64 0, .string ({ data := #[] }), .slice none 0 0]) H0 166 ky ky ?_
  intro q1 w2 (h3 : HA (bs w) [(q1, 166, #[iN .i64 0, iN .i64 0, .string ({ data := #[] }), .slice none 0 0])] w2)
  refine zv (.bool false) ?_
  refine wl_nil (then_at rfl (wp_seq (wl_region ?_)))
  refine zv (.pointer (some ⟨q, 0, none⟩)) ?_
  refine zv (.string sx) ?_
  refine wl_call (v := .tuple #[iN .i64 x, .bool true]) h3 ky enter382 #[.pointer (some ⟨q, 0, none⟩), .string sx] ky (by have := num_any (hq.keep h3.old.old) hm sx; rw [hn] at this; exact this) ?_
  intro w4 h5
  refine zv (.tuple #[iN .i64 x, .bool true]) ?_
  refine zv (iN .i64 x) ?_
  refine zv (.bool true) ?_
  refine zv (iN .i64 x) ?_
  refine zv (.bool true) ?_
  refine wl_nil (then_at rfl (wp_seq (wp_seq (wl_region ?_))))
  refine zv (.bool true) ?_
  refine zv (.bool false) ?_
  refine wl_nil (then_at rfl ?_)
  refine wp_cond_false ky ?_
  refine wp_skip (then_at rfl (wp_seq (wl_region ?_)))
  refine zv (.pointer (some ⟨q, 0, none⟩)) ?_
  refine zv (.pointer (some ⟨q, 0, none⟩)) ?_
  refine zv (.pointer (some ⟨q, 0, none⟩)) ?_
  refine zu (.slice (some ⟨g, 0, none⟩) m cap) (run_load1 (fun w => Tryz.isAgg141 w) ky (((hq.keep h5.old.old).cell 0).trans rfl)) ?_
  refine zv (iN .i64 x) ?_
  refine zu (.pointer (some ⟨g, x, none⟩)) (run_addr_slice (q := g) (n := m) (m := cap) (a := x) Tryz.underlying141 (fun w => Tryz.sizeOf150 w) ky ky (by omega)) ?_
  refine zu (.iface 185 (.agg #[iN .i64 y])) (run_load1 (fun w => Tryz.isAgg150 w) ky (((hg.keep h5.old.old).cell x).trans hc)) ?_
  refine wl_told (rv := .agg #[iN .i64 y]) ky enterM123 ky (told_nm y) ?_
  rintro _ w6 ⟨rfl, hb7⟩
  refine ⟨_, rfl, ?_⟩
  have h8 := HA.keep _ _ h5 hb7
  refine wl_fill (c' := #[iN .i64 1, iN .i64 y, .string { data := #[] }, .slice none 0 0]) h8 0 rfl ky ky ky rfl ky ky ?_
  intro w9 (h10 : HA (bs w) [(q1, 166, #[iN .i64 1, iN .i64 y, .string { data := #[] }, .slice none 0 0])] w9)
  refine zv (.bool true) ?_
  refine wl_nil (then_at rfl ?_)
  refine wp_ret ?_
  repeat first | refine then_ret ?_ | refine block_ret ?_
  exact bodyPost_ret (v := .tuple #[.agg #[iN .i64 1, iN .i64 y, .string { data := #[] }, .slice none 0 0], .bool true]) (res_cell_tmp (p := 4) (r := 5) ky ky ky (h10.get 0 rfl) Tryz.underlying166 rfl ky) rfl ⟨rfl, h10.old.old⟩
set_option maxRecDepth 100000 in
set_option maxHeartbeats 2000000 in
theorem Of_dt {w : World} {q : Nat} {t : Tb} {n0 m cap g x : Nat} {cur : Array Value} {sx : ByteArray} (hq : Blk w q 145 (tcell t n0 (.slice (some ⟨g, 0, none⟩) m cap))) (hg : Blk w g 150 cur) (hm : m ≤ 65536) (hx : x < m) (hn : numT m sx = some x) {s : ByteArray} (hsz : s.size ≤ 281474976710656) (hc : cur[x]? = some (ev (.dt s))) :
    Calls Tryz.prog 377 #[pt q, .string sx] w fun e w' => e = .returned (.tuple #[.agg #[iN .i64 2, iN .i64 0, .string s, .slice none 0 0], .bool true]) ∧ Below w.heap.size w w' := by
  have H0 := HA.start w
  go_enter Tryz.func377, Tryz.ntmps377
  refine wp_seq (wl_region ?_)
  refine wl_make (c := #[iN .i64 0, iN .i64 0, .string ({ data := #[] }), .slice none 0 0]) H0 166 ky ky ?_
  intro q1 w2 (h3 : HA (bs w) [(q1, 166, #[iN .i64 0, iN .i64 0, .string ({ data := #[] }), .slice none 0 0])] w2)
  refine zv (.bool false) ?_
  refine wl_nil (then_at rfl (wp_seq (wl_region ?_)))
  refine zv (.pointer (some ⟨q, 0, none⟩)) ?_
  refine zv (.string sx) ?_
  refine wl_call (v := .tuple #[iN .i64 x, .bool true]) h3 ky enter382 #[.pointer (some ⟨q, 0, none⟩), .string sx] ky (by have := num_any (hq.keep h3.old.old) hm sx; rw [hn] at this; exact this) ?_
  intro w4 h5
  refine zv (.tuple #[iN .i64 x, .bool true]) ?_
  refine zv (iN .i64 x) ?_
  refine zv (.bool true) ?_
  refine zv (iN .i64 x) ?_
  refine zv (.bool true) ?_
  refine wl_nil (then_at rfl (wp_seq (wp_seq (wl_region ?_))))
  refine zv (.bool true) ?_
  refine zv (.bool false) ?_
  refine wl_nil (then_at rfl ?_)
  refine wp_cond_false ky ?_
  refine wp_skip (then_at rfl (wp_seq (wl_region ?_)))
  refine zv (.pointer (some ⟨q, 0, none⟩)) ?_
  refine zv (.pointer (some ⟨q, 0, none⟩)) ?_
  refine zv (.pointer (some ⟨q, 0, none⟩)) ?_
  refine zu (.slice (some ⟨g, 0, none⟩) m cap) (run_load1 (fun w => Tryz.isAgg141 w) ky (((hq.keep h5.old.old).cell 0).trans rfl)) ?_
  refine zv (iN .i64 x) ?_
  refine zu (.pointer (some ⟨g, x, none⟩)) (run_addr_slice (q := g) (n := m) (m := cap) (a := x) Tryz.underlying141 (fun w => Tryz.sizeOf150 w) ky ky (by omega)) ?_
  refine zu (.iface 187 (.agg #[.string s])) (run_load1 (fun w => Tryz.isAgg150 w) ky (((hg.keep h5.old.old).cell x).trans hc)) ?_
  refine wl_told (rv := .agg #[.string s]) ky enterM127 ky (told_dt s hsz) ?_
  rintro _ w6 ⟨rfl, hb7⟩
  refine ⟨_, rfl, ?_⟩
  have h8 := HA.keep _ _ h5 hb7
  refine wl_fill (c' := #[iN .i64 2, iN .i64 0, .string s, .slice none 0 0]) h8 0 rfl ky ky ky rfl ky ky ?_
  intro w9 (h10 : HA (bs w) [(q1, 166, #[iN .i64 2, iN .i64 0, .string s, .slice none 0 0])] w9)
  refine zv (.bool true) ?_
  refine wl_nil (then_at rfl ?_)
  refine wp_ret ?_
  repeat first | refine then_ret ?_ | refine block_ret ?_
  exact bodyPost_ret (v := .tuple #[.agg #[iN .i64 2, iN .i64 0, .string s, .slice none 0 0], .bool true]) (res_cell_tmp (p := 4) (r := 5) ky ky ky (h10.get 0 rfl) Tryz.underlying166 rfl ky) rfl ⟨rfl, h10.old.old⟩
end Go.Proofs.YtoogiblkommdfaaGreat
