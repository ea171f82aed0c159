/-
  Known.
-/
import Derived.Test.YtcjjbpbehapjpaaGreatGB
namespace Go.Proofs.YtcjjbpbehapjpaaGreat
open Go.RowKit

theorem info29z : (Tryz.prog.info? 81).map (fun i => (i.zero, i.size, i.bytes)) = some (some (.slice none 0 0), 1, 24) := by kernel_rfl
theorem info4z : (Tryz.prog.info? 4).map (fun i => (i.zero, i.size, i.bytes)) = some (some (.bool false), 1, 1) := by kernel_rfl
theorem made_rep (v : Value) (c : Nat) : madeCells #[v] c = (List.replicate c v).toArray := by
  apply Array.ext
  · simp [size_madeCells]
  · intro i h1 h2
    simp [madeCells, Nat.mod_one]
section
variable {ρ : Operand → Value} {x y : Operand} {w : World} {dst : Option Tmp} {ty : TypeId} {pos : String} {aft : Array Edge} {gd : Option (Nat × Bool)}
theorem run_mk91 {c : Nat} (hx : ρ x = iN .i64 c) (hc : c ≤ 100000) : (execOp ρ ⟨dst, .makeSlice 149 x x, ty, pos, aft, gd⟩).run Tryz.prog w = .ok (.value (.slice (some ⟨w.heap.size, 0, none⟩) c c)) (w.alloc (.cells (List.replicate c (.slice none 0 0)).toArray 81)) := by
  obtain ⟨i, hi, h⟩ := Option.map_eq_some_iff.1 info29z
  simp only [Prod.mk.injEq] at h
  have e := run_makeSlice (P := Tryz.prog) w 149 81 i (.slice none 0 0) Tryz.underlying149 hi h.1 .i64 .i64 (c : Int) (c : Int) (by omega) (by omega) (by rw [h.2.1]; omega) (by rw [h.2.2]; omega) (by omega)
  rw [h.2.1] at e
  simp only [Int.toNat_natCast, Nat.mul_one] at e
  simp only [execOp, hx, iN, Sem.run_bind, e, Result.andThen_ok, Sem.run_pure]
  rw [show (Value.slice none 0 0).cells = #[Value.slice none 0 0] from rfl, made_rep]
theorem run_mk46 {c : Nat} (hx : ρ x = iN .i64 c) (hc : c ≤ 100000) : (execOp ρ ⟨dst, .makeSlice 79 x x, ty, pos, aft, gd⟩).run Tryz.prog w = .ok (.value (.slice (some ⟨w.heap.size, 0, none⟩) c c)) (w.alloc (.cells (boc (List.replicate c false)) 4)) := by
  obtain ⟨i, hi, h⟩ := Option.map_eq_some_iff.1 info4z
  simp only [Prod.mk.injEq] at h
  have e := run_makeSlice (P := Tryz.prog) w 79 4 i (.bool false) Tryz.underlying79 hi h.1 .i64 .i64 (c : Int) (c : Int) (by omega) (by omega) (by rw [h.2.1]; omega) (by rw [h.2.2]; omega) (by omega)
  rw [h.2.1] at e
  simp only [Int.toNat_natCast, Nat.mul_one] at e
  simp only [execOp, hx, iN, Sem.run_bind, e, Result.andThen_ok, Sem.run_pure]
  rw [show (Value.bool false).cells = #[Value.bool false] from rfl, made_rep, boc, List.map_replicate]
end
theorem Blk.type {w : World} {q : Nat} {t t' : TypeId} {c c' : Array Value} (h : Blk w q t c) (h' : Blk w q t' c') : t = t' := by
  obtain ⟨f, hf, _⟩ := h
  obtain ⟨f', hf', _⟩ := h'
  rw [hf] at hf'
  cases hf'
  rfl
def c29 (m : Nat) : Array Value := (List.replicate m (.slice none 0 0)).toArray
def c4 (m : Nat) : Array Value := boc (List.replicate m false)
def c94 (m a k : Nat) : Array Value := #[.slice none 0 0, .slice (some ⟨a, 0, none⟩) m m, .slice (some ⟨k, 0, none⟩) m m, .slice none 0 0]
/-- the three blocks of a web -/
structure SK (w0 : World) (m : Nat) (g : Nat → Nat) (d : Nat → Bool) (w : World) : Prop where
  ha : HA (bs w0) [] w
  k5 : d 5 = true → w0.heap.size ≤ g 5 ∧ Blk w (g 5) 81 (c29 m)
  k11 : d 11 = true → w0.heap.size ≤ g 11 ∧ Blk w (g 11) 4 (c4 m)
  k12 : d 12 = true → d 5 = true ∧ d 11 = true ∧ unp (g 12) = (g 5, g 11)
  k13 : d 13 = true → d 12 = true ∧ w0.heap.size ≤ g 13 ∧ Blk w (g 13) 157 (c94 m (unp (g 12)).1 (unp (g 12)).2)
  k14 : d 14 = true → d 13 = true ∧ g 14 = g 13
theorem SK.read {w0 : World} {m : Nat} {g : Nat → Nat} {d : Nat → Bool} {w : World} (h : SK w0 m g d w) {i : Nat} (h5 : i ≠ 5) (h11 : i ≠ 11) (h12 : i ≠ 12) (h13 : i ≠ 13) (h14 : i ≠ 14) : SK w0 m g (up d i true) w := by
  refine ⟨h.ha, ?_, ?_, ?_, ?_, ?_⟩ <;> simp only [up_ne d true (Ne.symm h5), up_ne d true (Ne.symm h11), up_ne d true (Ne.symm h12), up_ne d true (Ne.symm h13), up_ne d true (Ne.symm h14)]
  · exact h.k5
  · exact h.k11
  · exact h.k12
  · exact h.k13
  · exact h.k14
theorem SK.at5 {w0 : World} {m : Nat} {g : Nat → Nat} {d : Nat → Bool} {w : World} (h : SK w0 m g d w) (hd : d 5 = false) : SK w0 m (up g 5 w.heap.size) (up d 5 true) (w.alloc (.cells (c29 m) 81)) := by
  have n12 : d 12 = false := by cases hh : d 12 with | false => rfl | true => have := (h.k12 hh).1; rw [hd] at this; cases this
  have n13 : d 13 = false := by cases hh : d 13 with | false => rfl | true => have := (h.k13 hh).1; rw [n12] at this; cases this
  have n14 : d 14 = false := by cases hh : d 14 with | false => rfl | true => have := (h.k14 hh).1; rw [n13] at this; cases this
  refine ⟨(h.ha.make 81 (c29 m)).tl, fun _ => by rw [up_at]; exact ⟨h.ha.size, Blk.new w 81 (c29 m)⟩, fun e => ?_, fun e => ?_, fun e => ?_, fun e => ?_⟩
  · rw [up_ne _ _ (by decide)] at e ⊢
    exact ⟨(h.k11 e).1, (h.k11 e).2.alloc _⟩
  · rw [up_ne _ _ (by decide), n12] at e; cases e
  · rw [up_ne _ _ (by decide), n13] at e; cases e
  · rw [up_ne _ _ (by decide), n14] at e; cases e
theorem SK.at11 {w0 : World} {m : Nat} {g : Nat → Nat} {d : Nat → Bool} {w : World} (h : SK w0 m g d w) (hd : d 11 = false) : SK w0 m (up g 11 w.heap.size) (up d 11 true) (w.alloc (.cells (c4 m) 4)) := by
  have n12 : d 12 = false := by cases hh : d 12 with | false => rfl | true => have := (h.k12 hh).2.1; rw [hd] at this; cases this
  have n13 : d 13 = false := by cases hh : d 13 with | false => rfl | true => have := (h.k13 hh).1; rw [n12] at this; cases this
  have n14 : d 14 = false := by cases hh : d 14 with | false => rfl | true => have := (h.k14 hh).1; rw [n13] at this; cases this
  refine ⟨(h.ha.make 4 (c4 m)).tl, fun e => ?_, fun _ => by rw [up_at]; exact ⟨h.ha.size, Blk.new w 4 (c4 m)⟩, fun e => ?_, fun e => ?_, fun e => ?_⟩
  · rw [up_ne _ _ (by decide)] at e ⊢
    exact ⟨(h.k5 e).1, (h.k5 e).2.alloc _⟩
  · rw [up_ne _ _ (by decide), n12] at e; cases e
  · rw [up_ne _ _ (by decide), n13] at e; cases e
  · rw [up_ne _ _ (by decide), n14] at e; cases e
theorem SK.at12 {w0 : World} {m : Nat} {g : Nat → Nat} {d : Nat → Bool} {w : World} (h : SK w0 m g d w) (hd : d 12 = false) (h5 : d 5 = true) (h11 : d 11 = true) {n : Nat} (hn : unp n = (g 5, g 11)) : SK w0 m (up g 12 n) (up d 12 true) w := by
  have n13 : d 13 = false := by cases hh : d 13 with | false => rfl | true => have := (h.k13 hh).1; rw [hd] at this; cases this
  have n14 : d 14 = false := by cases hh : d 14 with | false => rfl | true => have := (h.k14 hh).1; rw [n13] at this; cases this
  refine ⟨h.ha, fun e => ?_, fun e => ?_, fun _ => ?_, fun e => ?_, fun e => ?_⟩
  · rw [up_ne _ _ (by decide)] at e ⊢; exact h.k5 e
  · rw [up_ne _ _ (by decide)] at e ⊢; exact h.k11 e
  · rw [up_ne _ _ (by decide), up_ne _ _ (by decide), up_at, up_ne _ _ (by decide), up_ne _ _ (by decide)]; exact ⟨h5, h11, hn⟩
  · rw [up_ne _ _ (by decide), n13] at e; cases e
  · rw [up_ne _ _ (by decide), n14] at e; cases e
theorem SK.at13 {w0 : World} {m : Nat} {g : Nat → Nat} {d : Nat → Bool} {w : World} (h : SK w0 m g d w) (hd : d 13 = false) (h12 : d 12 = true) : SK w0 m (up g 13 w.heap.size) (up d 13 true) (w.alloc (.cells (c94 m (unp (g 12)).1 (unp (g 12)).2) 157)) := by
  have n14 : d 14 = false := by cases hh : d 14 with | false => rfl | true => have := (h.k14 hh).1; rw [hd] at this; cases this
  refine ⟨(h.ha.make 157 _).tl, fun e => ?_, fun e => ?_, fun e => ?_, fun _ => ?_, fun e => ?_⟩
  · rw [up_ne _ _ (by decide)] at e ⊢; exact ⟨(h.k5 e).1, (h.k5 e).2.alloc _⟩
  · rw [up_ne _ _ (by decide)] at e ⊢; exact ⟨(h.k11 e).1, (h.k11 e).2.alloc _⟩
  · simp only [up_ne d true (show (12 : Nat) ≠ 13 by decide), up_ne d true (show (5 : Nat) ≠ 13 by decide), up_ne d true (show (11 : Nat) ≠ 13 by decide), up_ne g w.heap.size (show (12 : Nat) ≠ 13 by decide), up_ne g w.heap.size (show (5 : Nat) ≠ 13 by decide), up_ne g w.heap.size (show (11 : Nat) ≠ 13 by decide)] at e ⊢
    exact h.k12 e
  · rw [up_ne _ _ (by decide), up_at, up_ne _ _ (by decide)]; exact ⟨h12, h.ha.size, Blk.new w 157 _⟩
  · rw [up_ne _ _ (by decide), n14] at e; cases e
theorem SK.at14 {w0 : World} {m : Nat} {g : Nat → Nat} {d : Nat → Bool} {w : World} (h : SK w0 m g d w) (h13 : d 13 = true) : SK w0 m (up g 14 (g 13)) (up d 14 true) w := by
  refine ⟨h.ha, ?_, ?_, ?_, ?_, fun _ => ?_⟩
  · rw [up_ne d true (show (5 : Nat) ≠ 14 by decide), up_ne g (g 13) (show (5 : Nat) ≠ 14 by decide)]; exact h.k5
  · rw [up_ne d true (show (11 : Nat) ≠ 14 by decide), up_ne g (g 13) (show (11 : Nat) ≠ 14 by decide)]; exact h.k11
  · simp only [up_ne d true (show (12 : Nat) ≠ 14 by decide), up_ne d true (show (5 : Nat) ≠ 14 by decide), up_ne d true (show (11 : Nat) ≠ 14 by decide), up_ne g (g 13) (show (12 : Nat) ≠ 14 by decide), up_ne g (g 13) (show (5 : Nat) ≠ 14 by decide), up_ne g (g 13) (show (11 : Nat) ≠ 14 by decide)]
    exact h.k12
  · simp only [up_ne d true (show (13 : Nat) ≠ 14 by decide), up_ne d true (show (12 : Nat) ≠ 14 by decide), up_ne g (g 13) (show (13 : Nat) ≠ 14 by decide), up_ne g (g 13) (show (12 : Nat) ≠ 14 by decide)]
    exact h.k13
  · rw [up_ne _ _ (by decide), up_at, up_ne _ _ (by decide)]; exact ⟨h13, rfl⟩
theorem getD_memN {l : List Nat} {i : Nat} (h : i < l.length) : l.getD i 0 ∈ l := by
  rw [List.getD_eq_getElem?_getD, List.getElem?_eq_getElem h]
  exact List.getElem_mem _
def st00 (m : Nat) : St := ⟨[], List.replicate m [], List.replicate m false, []⟩
theorem SK.done {w0 : World} {m : Nat} {g : Nat → Nat} {w : World} (h : SK w0 m g (fun _ => true) w) : WH (bs w0) ⟨g 14, g 5, g 11⟩ m (st00 m) [] w := by
  obtain ⟨a1, a2⟩ := h.k5 rfl
  obtain ⟨b1, b2⟩ := h.k11 rfl
  obtain ⟨_, _, c1⟩ := h.k12 rfl
  obtain ⟨_, d1, d2⟩ := h.k13 rfl
  obtain ⟨_, e1⟩ := h.k14 rfl
  rw [c1] at d2
  refine ⟨.slice none 0 0, .slice none 0 0, List.replicate m (.slice none 0 0), [], [], [], Row.nil 210 2, Row.nil 3 1, NRows.nils m, ?_⟩
  show HA (bs w0) ((g 14, 157, c94 m (g 5) (g 11)) :: (g 5, 81, c29 m) :: (g 11, 4, c4 m) :: []) w
  rw [e1]
  refine ((h.ha.consNew b2 b1 (by simp)).consNew a2 a1 ?_).consNew d2 d1 ?_
  · intro x hx e
    rw [List.mem_singleton] at hx
    subst hx
    have e' : g 11 = g 5 := e
    have := a2.type (e' ▸ b2)
    cases this
  · intro x hx e
    rcases List.mem_cons.1 hx with rfl | hx
    · have e' : g 5 = g 13 := e
      have := d2.type (e' ▸ a2)
      cases this
    · rw [List.mem_singleton] at hx
      subst hx
      have e' : g 11 = g 13 := e
      have := d2.type (e' ▸ b2)
      cases this
theorem lef_rep : ∀ m, lef (List.replicate m false) = m
  | 0 => rfl
  | m + 1 => by rw [List.replicate_succ, lef, lef_rep m]
theorem st00_ok (m : Nat) : Wok m (st00 m) := ⟨by simp [st00], by simp [st00], by simp [st00], by simp [st00], by simp [st00], by simp [st00, lef_rep]⟩
theorem st00_siz (m : Nat) : siz (st00 m) = 0 := by simp [siz, st00, tot]
/-- the rules of the first terms -/
def layK (es : List Ent) : Nat → St
  | 0 => st00 es.length
  | i + 1 => match es[i]? with | some e => layS es (layK es i) i e | none => layK es i
theorem layK_ok {es : List Ent} (hwf : Wf es) (hwg : Wg es) : ∀ i, i ≤ es.length → Wok es.length (layK es i) ∧ siz (layK es i) ≤ i * (3 * es.length + 200)
  | 0, _ => ⟨st00_ok _, by show siz (st00 es.length) ≤ _; rw [st00_siz]; omega⟩
  | i + 1, hi => by
    obtain ⟨h1, h2⟩ := layK_ok hwf hwg i (by omega)
    have he : es[i]? = some (es[i]'(by omega)) := List.getElem?_eq_getElem (by omega)
    have e : layK es (i + 1) = layS es (layK es i) i (es[i]'(by omega)) := by rw [layK, he]
    rw [e]
    obtain ⟨a1, a2⟩ := lay_ok h1 rfl hwf hwg (x := i) (by omega) he
    refine ⟨a1, ?_⟩
    rw [Nat.add_mul, Nat.one_mul]
    omega
/-- what texts tell -/
def seenK (es : List Ent) (st : St) (ss : List ByteArray) (i : Nat) : St := (ss.take i).foldl (fun st s => (wth es.length s).foldl learnS st) st
def knownF (es : List Ent) (ss : List ByteArray) : List Bool := (spreadS (seenK es (layK es es.length) ss ss.length)).known
theorem learns_ok {m : Nat} (l : List Nat) (hl : ∀ y ∈ l, y < m) : ∀ (i : Nat) (st : St), Wok m st → Wok m ((l.take i).foldl learnS st) := by
  intro i st h
  have key : ∀ (l : List Nat) (st : St), (∀ y ∈ l, y < m) → Wok m st → Wok m (l.foldl learnS st) := by
    intro l
    induction l with
    | nil => exact fun st _ h => h
    | cons y l ih => exact fun st hl h => ih _ (fun z hz => hl z (List.mem_cons_of_mem _ hz)) (learnS_ok h (hl y (List.mem_cons_self ..)))
  exact key _ _ (fun y hy => hl y (List.mem_of_mem_take hy)) h
theorem seenK_ok {es : List Ent} {st : St} (h : Wok es.length st) (ss : List ByteArray) (i : Nat) : Wok es.length (seenK es st ss i) := by
  unfold seenK
  generalize ss.take i = l
  induction l generalizing st with
  | nil => exact h
  | cons s l ih =>
    refine ih ?_
    have := learns_ok (wth es.length s) (wth_lt _ _) (wth es.length s).length st h
    rwa [List.take_length] at this
theorem seenK_step (es : List Ent) (st : St) (ss : List ByteArray) (i : Nat) (h : i < ss.length) : seenK es st ss (i + 1) = (wth es.length (ss.getD i ByteArray.empty)).foldl learnS (seenK es st ss i) := by
  unfold seenK
  rw [List.take_succ_eq_append_getElem h, List.foldl_append, List.getD_eq_getElem?_getD, List.getElem?_eq_getElem h]
  rfl
theorem OpGhost.pairs {ops : Array Oper} {Q : Exit → Act → World → Prop} {F : (Nat → Nat) → Act} {S : (Nat → Nat) → (Nat → Bool) → World → Prop} {i : Nat} {o : Oper} (hw : ∀ g, Region.wanted o (yielded ops (F g).tmps) = true) (v : (Nat → Nat) → Value) (v' : Nat → Value) (hr : ∀ g w, (execOp (F g).eval o).run Tryz.prog w = .ok (.value (v g)) w) (hp : ∀ g n, (F g).put o.dst (v' n) = F (up g i n))
    (hv : ∀ g n, unp n = (g 5, g 11) → v' n = v g)
    (h : ∀ g d w, S g d w → d i = false → (∀ e ∈ o.after, Region.binds .any e = true → d e.on = true) → ∀ n, unp n = (g 5, g 11) → S (up g i n) (up d i true) w) : OpGhost Tryz.prog .any ops Q S F i o := fun g d w hS hi hd => by
  rw [if_pos (hw g)]
  unfold Oper.wp
  rw [hr g w]
  obtain ⟨n, hn⟩ := unp_all (g 5 + g 11) (g 5) (g 11) rfl
  exact ⟨n, by rw [← hv g n hn]; exact hp g n, h g d w hS hi hd n hn⟩
set_option linter.unusedVariables false in
set_option maxRecDepth 100000 in
set_option maxHeartbeats 2000000 in
theorem Known_any {w : World} {t : Tb} {es : List Ent} (h : TV w t es) (hwf : Wf es) (hwg : Wg es) (hm : es.length ≤ 400) (hd : ∀ (i : Nat) (s : ByteArray), es[i]? = some (Ent.dt s) → s.size ≤ 1000000) {m0 : Int} (hv : w.cell? ⟨0, 0, none⟩ = some (.int .i64 m0)) (ss : List ByteArray) (o : Option Addr) (cs : Nat) (hp : ss = [] ∨ ∃ pq cq, o = some ⟨pq, 0, none⟩ ∧ PreS cq ss ∧ Blk w pq 9 cq) (hss : ∀ i, (ss.getD i ByteArray.empty).size ≤ 1000000) (hsl : ss.length ≤ 1000000) :
    Calls Tryz.prog 26 #[pt t.q, .slice o ss.length cs] w fun e w' => ∃ kb, e = .returned (.slice (some ⟨kb, 0, none⟩) es.length es.length) ∧ w.heap.size ≤ kb ∧ Blk w' kb 4 (boc (knownF es ss)) ∧ Below w.heap.size w w' := by
  obtain ⟨v, hq, hrow⟩ := h.row
  obtain ⟨p, c, rfl⟩ : ∃ p c, v = .slice p es.length c := by
    rcases hrow with ⟨e1, h2⟩ | ⟨g, cap, cur, h2, _⟩
    · exact ⟨none, 0, by rw [h2, e1]; rfl⟩
    · exact ⟨_, _, h2⟩
  have H0 := HA.start w
  go_enter Tryz.func26, Tryz.ntmps26
  refine wp_seq (wl_region ?_)
  refine zv (.slice none 0 0) ?_
  refine wl_nil (then_at rfl (wp_seq (wp_seq (wl_region ?_))))
  refine zv (.pointer (some ⟨t.q, 0, none⟩)) ?_
  refine wl_call (v := .bool false) H0 ky enter73 #[.pointer (some ⟨t.q, 0, none⟩)] ky (none_no (hq.keep H0.old.old)) ?_
  intro w1 h2
  refine wl_nil (then_at rfl ?_)
  refine wp_cond_false ky ?_
  refine wp_skip (then_at rfl (wp_seq ?_))
  refine wp_region_ghost (fun g : Nat → Nat => (⟨(pt t.q :: .slice o ss.length cs :: un :: un :: .slice none 0 0 :: pt (g 14) :: un :: un :: un :: un :: un :: un :: pt t.q :: .bool false :: pt t.q :: pt t.q :: pt t.q :: .slice p es.length c :: iN .i64 es.length :: .slice (some ⟨g 5, 0, none⟩) es.length es.length :: pt t.q :: pt t.q :: pt t.q :: .slice p es.length c :: iN .i64 es.length :: .slice (some ⟨g 11, 0, none⟩) es.length es.length :: .agg #[.slice none 0 0, .slice (some ⟨(unp (g 12)).1, 0, none⟩) es.length es.length, .slice (some ⟨(unp (g 12)).2, 0, none⟩) es.length es.length, .slice none 0 0] :: pt (g 13) :: List.replicate 41 un).toArray, []⟩ : Act)) (SK w es.length) [.pointer (some ⟨t.q, 0, none⟩), .pointer (some ⟨t.q, 0, none⟩), .pointer (some ⟨t.q, 0, none⟩), .slice p es.length c, iN .i64 es.length, .slice (some ⟨0, 0, none⟩) es.length es.length, .pointer (some ⟨t.q, 0, none⟩), .pointer (some ⟨t.q, 0, none⟩), .pointer (some ⟨t.q, 0, none⟩), .slice p es.length c, iN .i64 es.length, .slice (some ⟨0, 0, none⟩) es.length es.length, .agg #[.slice none 0 0, .slice (some ⟨(unp 0).1, 0, none⟩) es.length es.length, .slice (some ⟨(unp 0).2, 0, none⟩) es.length es.length, .slice none 0 0], .pointer (some ⟨0, 0, none⟩), .pointer (some ⟨0, 0, none⟩)] ky ky ky ky (fun _ _ _ _ h => h) (fun d hd => ⟨h2.drew, fun hz => (by rw [hd 5 (by decide)] at hz; cases hz), fun hz => (by rw [hd 11 (by decide)] at hz; cases hz), fun hz => (by rw [hd 12 (by decide)] at hz; cases hz), fun hz => (by rw [hd 13 (by decide)] at hz; cases hz), fun hz => (by rw [hd 14 (by decide)] at hz; cases hz)⟩) ?_ ?_
  · refine AllGhost.cons (OpGhost.take (v := fun _ => .pointer (some ⟨t.q, 0, none⟩)) (fun _ => by kernel_rfl) (fun _ => by kernel_rfl) (fun g d w' h' _ => ⟨ky, h'.read (by decide) (by decide) (by decide) (by decide) (by decide)⟩)) ?_
    refine AllGhost.cons (OpGhost.take (v := fun _ => .pointer (some ⟨t.q, 0, none⟩)) (fun _ => by kernel_rfl) (fun _ => by kernel_rfl) (fun g d w' h' _ => ⟨ky, h'.read (by decide) (by decide) (by decide) (by decide) (by decide)⟩)) ?_
    refine AllGhost.cons (OpGhost.take (v := fun _ => .pointer (some ⟨t.q, 0, none⟩)) (fun _ => by kernel_rfl) (fun _ => by kernel_rfl) (fun g d w' h' _ => ⟨ky, h'.read (by decide) (by decide) (by decide) (by decide) (by decide)⟩)) ?_
    refine AllGhost.cons (OpGhost.take (v := fun _ => .slice p es.length c) (fun _ => by kernel_rfl) (fun _ => by kernel_rfl) (fun g d w' h' _ => ⟨run_load1 (fun w => Tryz.isAgg150 w) ky (((hq.keep h'.ha.old.old).cell 0).trans rfl), h'.read (by decide) (by decide) (by decide) (by decide) (by decide)⟩)) ?_
    refine AllGhost.cons (OpGhost.take (v := fun _ => iN .i64 es.length) (fun _ => by kernel_rfl) (fun _ => by kernel_rfl) (fun g d w' h' _ => ⟨ky, h'.read (by decide) (by decide) (by decide) (by decide) (by decide)⟩)) ?_
    refine AllGhost.cons (OpGhost.act (v := fun _ w => .slice (some ⟨w.heap.size, 0, none⟩) es.length es.length) (n := fun _ w => w.heap.size) (W := fun _ w => w.alloc (.cells (c29 es.length) 81)) (fun _ => by kernel_rfl) (fun _ _ => by kernel_rfl) (fun g d w' h' hd _ => ⟨run_mk91 ky (by omega), h'.at5 hd⟩)) ?_
    refine AllGhost.cons (OpGhost.take (v := fun _ => .pointer (some ⟨t.q, 0, none⟩)) (fun _ => by kernel_rfl) (fun _ => by kernel_rfl) (fun g d w' h' _ => ⟨ky, h'.read (by decide) (by decide) (by decide) (by decide) (by decide)⟩)) ?_
    refine AllGhost.cons (OpGhost.take (v := fun _ => .pointer (some ⟨t.q, 0, none⟩)) (fun _ => by kernel_rfl) (fun _ => by kernel_rfl) (fun g d w' h' _ => ⟨ky, h'.read (by decide) (by decide) (by decide) (by decide) (by decide)⟩)) ?_
    refine AllGhost.cons (OpGhost.take (v := fun _ => .pointer (some ⟨t.q, 0, none⟩)) (fun _ => by kernel_rfl) (fun _ => by kernel_rfl) (fun g d w' h' _ => ⟨ky, h'.read (by decide) (by decide) (by decide) (by decide) (by decide)⟩)) ?_
    refine AllGhost.cons (OpGhost.take (v := fun _ => .slice p es.length c) (fun _ => by kernel_rfl) (fun _ => by kernel_rfl) (fun g d w' h' _ => ⟨run_load1 (fun w => Tryz.isAgg150 w) ky (((hq.keep h'.ha.old.old).cell 0).trans rfl), h'.read (by decide) (by decide) (by decide) (by decide) (by decide)⟩)) ?_
    refine AllGhost.cons (OpGhost.take (v := fun _ => iN .i64 es.length) (fun _ => by kernel_rfl) (fun _ => by kernel_rfl) (fun g d w' h' _ => ⟨ky, h'.read (by decide) (by decide) (by decide) (by decide) (by decide)⟩)) ?_
    refine AllGhost.cons (OpGhost.act (v := fun _ w => .slice (some ⟨w.heap.size, 0, none⟩) es.length es.length) (n := fun _ w => w.heap.size) (W := fun _ w => w.alloc (.cells (c4 es.length) 4)) (fun _ => by kernel_rfl) (fun _ _ => by kernel_rfl) (fun g d w' h' hd _ => ⟨run_mk46 ky (by omega), h'.at11 hd⟩)) ?_
    refine AllGhost.cons (OpGhost.pairs (fun _ => by kernel_rfl) (fun g => .agg #[.slice none 0 0, .slice (some ⟨g 5, 0, none⟩) es.length es.length, .slice (some ⟨g 11, 0, none⟩) es.length es.length, .slice none 0 0]) (fun n => .agg #[.slice none 0 0, .slice (some ⟨(unp n).1, 0, none⟩) es.length es.length, .slice (some ⟨(unp n).2, 0, none⟩) es.length es.length, .slice none 0 0]) (fun _ _ => by kernel_rfl) (fun _ _ => by kernel_rfl) (fun _ _ h => by simp only [h]) (fun g d w' h' hd ha n hn => h'.at12 hd (ahead_ok (l := [5, 11]) ky ha 5 (by decide)) (ahead_ok (l := [5, 11]) ky ha 11 (by decide)) hn)) ?_
    refine AllGhost.cons (OpGhost.act (v := fun _ w => .pointer (some ⟨w.heap.size, 0, none⟩)) (n := fun _ w => w.heap.size) (W := fun g w => w.alloc (.cells (c94 es.length (unp (g 12)).1 (unp (g 12)).2) 157)) (fun _ => by kernel_rfl) (fun _ _ => by kernel_rfl) (fun g d w' h' hd ha => ⟨by kernel_rfl, h'.at13 hd (ahead_ok (l := [12]) ky ha 12 (by decide))⟩)) ?_
    refine AllGhost.cons (OpGhost.act (v := fun g _ => .pointer (some ⟨g 13, 0, none⟩)) (n := fun g _ => g 13) (W := fun _ w => w) (fun _ => by kernel_rfl) (fun _ _ => by kernel_rfl) (fun g d w' h' hd ha => ⟨by kernel_rfl, h'.at14 (ahead_ok (l := [13]) ky ha 13 (by decide))⟩)) ?_
    exact AllGhost.nil
  intro g w3 hg0
  have hW0 := hg0.done
  clear hg0
  obtain ⟨b, hbq⟩ : ∃ b : Wb, b = ⟨g 14, g 5, g 11⟩ := ⟨_, rfl⟩
  rw [← hbq] at hW0
  have e5 : g 14 = b.p := by rw [hbq]
  refine then_at rfl (wp_seq (wp_seq ?_))
  rw [e5]
  refine wl_region ?_
  refine zv (.pointer (some ⟨t.q, 0, none⟩)) ?_
  refine zv (.pointer (some ⟨t.q, 0, none⟩)) ?_
  refine zv (.pointer (some ⟨t.q, 0, none⟩)) ?_
  refine zu (.slice p es.length c) (run_load1 (fun w => Tryz.isAgg150 w) ky (((hq.keep hW0.ha.old.old).cell 0).trans rfl)) ?_
  refine zv (iN .i64 es.length) ?_
  refine zv (iN .i64 0) ?_
  refine wl_nil (then_at rfl (wp_block ?_))
  refine wp_count (fun i A w' => ∃ u4 : Nat → Value, A = ⟨(pt t.q :: .slice o ss.length cs :: un :: un :: .slice none 0 0 :: pt b.p :: u4 6 :: u4 7 :: un :: un :: un :: un :: pt t.q :: .bool false :: pt t.q :: pt t.q :: pt t.q :: .slice p es.length c :: iN .i64 es.length :: .slice (some ⟨g 5, 0, none⟩) es.length es.length :: pt t.q :: pt t.q :: pt t.q :: .slice p es.length c :: iN .i64 es.length :: .slice (some ⟨g 11, 0, none⟩) es.length es.length :: .agg #[.slice none 0 0, .slice (some ⟨(unp (g 12)).1, 0, none⟩) es.length es.length, .slice (some ⟨(unp (g 12)).2, 0, none⟩) es.length es.length, .slice none 0 0] :: pt (g 13) :: pt t.q :: pt t.q :: pt t.q :: .slice p es.length c :: iN .i64 es.length :: iN .i64 i :: u4 34 :: u4 35 :: u4 36 :: u4 37 :: u4 38 :: u4 39 :: u4 40 :: u4 41 :: u4 42 :: u4 43 :: List.replicate 25 un).toArray, []⟩ ∧ WH (bs w) b es.length (layK es i) [] w') es.length ?_ ?_ ?_
  · exact ⟨fun ii => (([(6, undef), (7, undef), (34, undef), (35, undef), (36, undef), (37, undef), (38, undef), (39, undef), (40, undef), (41, undef), (42, undef), (43, undef)] : List (Nat × Value)).find? (·.1 == ii)).elim undef (·.2), by kernel_rfl, hW0⟩
  · rintro i hk _ w5 ⟨u4, rfl, hW⟩
    obtain ⟨gt, capt, curt, hvt, hgt, hct⟩ : ∃ g cap cur, Value.slice p es.length c = .slice (some ⟨g, 0, none⟩) es.length cap ∧ Blk w g 159 cur ∧ cur.toList.take es.length = es.map ev := hrow.resolve_left (by intro e; rw [e.1] at hk; simp at hk)
    cases hvt
    have hei : es[i]? = some (es[i]'hk) := List.getElem?_eq_getElem hk
    obtain ⟨en, hen⟩ : ∃ e, e = es[i]'hk := ⟨_, rfl⟩
    rw [← hen] at hei
    obtain ⟨hoki, hszi⟩ := layK_ok hwf hwg i (by omega)
    have hmul : i * (3 * es.length + 200) ≤ 400 * 1400 := Nat.mul_le_mul (by omega) (by omega)
    refine wp_seq (wl_region ?_)
    refine zu (.bool true) (run_lss (k := .i64) (a := i) (b := es.length) ky ky true (decide_eq_true (by omega))) ?_
    refine wl_nil (then_at rfl (wp_seq ?_))
    refine wp_cond_true ky ?_
    refine wp_skip (then_at rfl (wp_seq (wp_block (wp_seq (wl_region ?_)))))
    refine zv (iN .i64 i) ?_
    refine zu (.pointer (some ⟨gt, i, none⟩)) (run_addr_slice (q := gt) (n := es.length) (m := c) (a := i) Tryz.underlying150 (fun w => Tryz.sizeOf159 w) ky ky (by omega)) ?_
    refine zu (ev en) (run_load1 (fun w => Tryz.isAgg159 w) ky (((hgt.keep hW.ha.old.old).cell i).trans (row_get hct hei))) ?_
    refine zv (iN .i64 i) ?_
    refine zv (ev en) ?_
    refine wl_nil (then_at rfl (wl_region ?_))
    refine zv (.pointer (some ⟨t.q, 0, none⟩)) ?_
    refine zv (.pointer (some ⟨b.p, 0, none⟩)) ?_
    refine zv (iN .i64 i) ?_
    refine zv (ev en) ?_
    refine wl_callx ky enter74 #[.pointer (some ⟨t.q, 0, none⟩), .pointer (some ⟨b.p, 0, none⟩), iN .i64 i, ev en] ky (lay_any (z := bs w) (t := t) (es := es) (b := b) hW hoki (by omega) h rfl hwf hwg hv hk (by omega) hei (fun s hs => hd i s (by rw [← hs]; exact hei))) ?_
    rintro _ w6 ⟨rfl, hW2⟩
    refine ⟨_, rfl, ?_⟩
    refine wl_nil (block_normal (then_at rfl (wl_region ?_)))
    refine zu (iN .i64 (i + 1)) (run_add (k := .i64) (a := i) (b := 1) ky ky (by simp only [top]; omega)) ?_
    refine zv (iN .i64 (i + 1)) ?_
    refine wl_nil ?_
    exact then_I ⟨fun ii => (([(6, iN .i64 i), (7, ev en), (34, .bool true), (35, iN .i64 i), (36, .pointer (some ⟨gt, i, none⟩)), (37, ev en), (38, .pointer (some ⟨t.q, 0, none⟩)), (39, .pointer (some ⟨b.p, 0, none⟩)), (40, iN .i64 i), (41, ev en), (42, .tuple #[]), (43, iN .i64 (i + 1))] : List (Nat × Value)).find? (·.1 == ii)).elim undef (·.2), by kernel_rfl, (by rw [layK, hei]; exact hW2)⟩
  · rintro _ w7 ⟨u4, rfl, hW⟩
    refine wp_seq (wl_region ?_)
    refine zu (.bool false) (run_lss (k := .i64) (a := es.length) (b := es.length) ky ky false (decide_eq_false (by omega))) ?_
    refine wl_nil (then_at rfl (wp_seq ?_))
    refine wp_cond_false ky ?_
    refine wp_exit ?_
    repeat first | refine then_exit ?_ | refine block_exit ?_ | refine block_exit_ne (by decide) ?_
    refine then_at rfl (wp_seq (wp_seq (wl_region ?_)))
    refine zv (.slice o ss.length cs) ?_
    refine zv (iN .i64 ss.length) ?_
    refine zv (iN .i64 0) ?_
    refine wl_nil ?_
    refine then_at (F := ⟨(pt t.q :: .slice o ss.length cs :: un :: un :: .slice none 0 0 :: pt b.p :: u4 6 :: u4 7 :: un :: un :: un :: un :: pt t.q :: .bool false :: pt t.q :: pt t.q :: pt t.q :: .slice p es.length c :: iN .i64 es.length :: .slice (some ⟨g 5, 0, none⟩) es.length es.length :: pt t.q :: pt t.q :: pt t.q :: .slice p es.length c :: iN .i64 es.length :: .slice (some ⟨g 11, 0, none⟩) es.length es.length :: .agg #[.slice none 0 0, .slice (some ⟨(unp (g 12)).1, 0, none⟩) es.length es.length, .slice (some ⟨(unp (g 12)).2, 0, none⟩) es.length es.length, .slice none 0 0] :: pt (g 13) :: pt t.q :: pt t.q :: pt t.q :: .slice p es.length c :: iN .i64 es.length :: iN .i64 es.length :: .bool false :: u4 35 :: u4 36 :: u4 37 :: u4 38 :: u4 39 :: u4 40 :: u4 41 :: u4 42 :: u4 43 :: .slice o ss.length cs :: iN .i64 ss.length :: iN .i64 0 :: List.replicate 22 un).toArray, []⟩) ky ?_
    refine wp_block ?_
    refine wp_count (fun j A w' => ∃ u8 : Nat → Value, A = ⟨(pt t.q :: .slice o ss.length cs :: un :: un :: .slice none 0 0 :: pt b.p :: u4 6 :: u4 7 :: un :: u8 9 :: un :: u8 11 :: pt t.q :: .bool false :: pt t.q :: pt t.q :: pt t.q :: .slice p es.length c :: iN .i64 es.length :: .slice (some ⟨g 5, 0, none⟩) es.length es.length :: pt t.q :: pt t.q :: pt t.q :: .slice p es.length c :: iN .i64 es.length :: .slice (some ⟨g 11, 0, none⟩) es.length es.length :: .agg #[.slice none 0 0, .slice (some ⟨(unp (g 12)).1, 0, none⟩) es.length es.length, .slice (some ⟨(unp (g 12)).2, 0, none⟩) es.length es.length, .slice none 0 0] :: pt (g 13) :: pt t.q :: pt t.q :: pt t.q :: .slice p es.length c :: iN .i64 es.length :: iN .i64 es.length :: .bool false :: u4 35 :: u4 36 :: u4 37 :: u4 38 :: u4 39 :: u4 40 :: u4 41 :: u4 42 :: u4 43 :: .slice o ss.length cs :: iN .i64 ss.length :: iN .i64 j :: u8 47 :: u8 48 :: u8 49 :: u8 50 :: u8 51 :: u8 52 :: u8 53 :: u8 54 :: u8 55 :: u8 56 :: u8 57 :: u8 58 :: u8 59 :: u8 60 :: u8 61 :: u8 62 :: List.replicate 6 un).toArray, []⟩ ∧ WH (bs w) b es.length (seenK es (layK es es.length) ss j) [] w') ss.length ?_ ?_ ?_
    · exact ⟨fun ii => (([(9, undef), (11, undef), (47, undef), (48, undef), (49, undef), (50, undef), (51, undef), (52, undef), (53, undef), (54, undef), (55, undef), (56, undef), (57, undef), (58, undef), (59, undef), (60, undef), (61, undef), (62, undef)] : List (Nat × Value)).find? (·.1 == ii)).elim undef (·.2), by kernel_rfl, (by exact hW)⟩
    · rintro j hj _ w9 ⟨u8, rfl, hV⟩
      obtain ⟨pq, cq, rfl, hps, hmq⟩ := hp.resolve_left (by intro e; rw [e] at hj; simp at hj)
      have hokj := seenK_ok (layK_ok hwf hwg es.length (Nat.le_refl _)).1 ss j
      refine wp_seq (wl_region ?_)
      refine zu (.bool true) (run_lss (k := .i64) (a := j) (b := ss.length) ky ky true (decide_eq_true (by omega))) ?_
      refine wl_nil (then_at rfl (wp_seq ?_))
      refine wp_cond_true ky ?_
      refine wp_skip (then_at rfl (wp_seq (wp_block (wp_seq (wl_region ?_)))))
      refine zu (.pointer (some ⟨pq, j, none⟩)) (run_addr_slice (q := pq) (n := ss.length) (m := cs) (a := j) Tryz.underlying58 (fun w => Tryz.sizeOf9 w) ky ky (by omega)) ?_
      refine zu (.string (ss.getD j ByteArray.empty)) (run_load1 (fun w => Tryz.isAgg9 w) ky (((hmq.keep hV.ha.old.old).cell j).trans (hps j hj))) ?_
      refine zv (.string (ss.getD j ByteArray.empty)) ?_
      refine wl_nil (then_at rfl (wp_seq (wl_region ?_)))
      refine zv (.pointer (some ⟨t.q, 0, none⟩)) ?_
      refine zv (.string (ss.getD j ByteArray.empty)) ?_
      refine wl_callx ky enter27 #[.pointer (some ⟨t.q, 0, none⟩), .string (ss.getD j ByteArray.empty)] ky (Within_any (h.keep hV.ha.old.old) (by omega) (cell_below hV.ha.old.old hv) (ss.getD j ByteArray.empty) (hss j)) ?_
      rintro _ w10 ⟨ow, cw, rfl, hri, hbw⟩
      refine ⟨_, rfl, ?_⟩
      obtain ⟨L1, hW1, hRd⟩ := WH.ri hV hbw hri
      refine zv (iN .i64 ((wth es.length (ss.getD j ByteArray.empty)).length)) ?_
      refine zv (iN .i64 0) ?_
      refine wl_nil (then_at rfl (wp_block ?_))
      refine wp_count (fun i A w' => ∃ u11 : Nat → Value, A = ⟨(pt t.q :: .slice (some ⟨pq, 0, none⟩) ss.length cs :: un :: un :: .slice none 0 0 :: pt b.p :: u4 6 :: u4 7 :: un :: .string (ss.getD j ByteArray.empty) :: un :: u11 11 :: pt t.q :: .bool false :: pt t.q :: pt t.q :: pt t.q :: .slice p es.length c :: iN .i64 es.length :: .slice (some ⟨g 5, 0, none⟩) es.length es.length :: pt t.q :: pt t.q :: pt t.q :: .slice p es.length c :: iN .i64 es.length :: .slice (some ⟨g 11, 0, none⟩) es.length es.length :: .agg #[.slice none 0 0, .slice (some ⟨(unp (g 12)).1, 0, none⟩) es.length es.length, .slice (some ⟨(unp (g 12)).2, 0, none⟩) es.length es.length, .slice none 0 0] :: pt (g 13) :: pt t.q :: pt t.q :: pt t.q :: .slice p es.length c :: iN .i64 es.length :: iN .i64 es.length :: .bool false :: u4 35 :: u4 36 :: u4 37 :: u4 38 :: u4 39 :: u4 40 :: u4 41 :: u4 42 :: u4 43 :: .slice (some ⟨pq, 0, none⟩) ss.length cs :: iN .i64 ss.length :: iN .i64 j :: .bool true :: .pointer (some ⟨pq, j, none⟩) :: .string (ss.getD j ByteArray.empty) :: pt t.q :: .string (ss.getD j ByteArray.empty) :: .slice ow (wth es.length (ss.getD j ByteArray.empty)).length cw :: iN .i64 ((wth es.length (ss.getD j ByteArray.empty)).length) :: iN .i64 i :: u11 55 :: u11 56 :: u11 57 :: u11 58 :: u11 59 :: u11 60 :: u11 61 :: u8 62 :: List.replicate 6 un).toArray, []⟩ ∧ WH (bs w) b es.length (((wth es.length (ss.getD j ByteArray.empty)).take i).foldl learnS (seenK es (layK es es.length) ss j)) (L1 ++ []) w') ((wth es.length (ss.getD j ByteArray.empty)).length) ?_ ?_ ?_
      · exact ⟨fun ii => (([(11, u8 11), (55, u8 55), (56, u8 56), (57, u8 57), (58, u8 58), (59, u8 59), (60, u8 60), (61, u8 61)] : List (Nat × Value)).find? (·.1 == ii)).elim undef (·.2), by kernel_rfl, (by exact hW1)⟩
      · rintro i hk _ w12 ⟨u11, rfl, hX⟩
        obtain ⟨qw, c0, rfl, hmw, hcw⟩ := hRd.resolve_left (by intro e; rw [e] at hk; simp at hk)
        have hoki := learns_ok (wth es.length (ss.getD j ByteArray.empty)) (wth_lt _ _) i _ hokj
        have hyl : (wth es.length (ss.getD j ByteArray.empty)).getD i 0 < es.length := wth_lt es.length (ss.getD j ByteArray.empty) _ (getD_memN hk)
        have hnl := hoki.nl
        have hwl := wth_len es.length (ss.getD j ByteArray.empty)
        refine wp_seq (wl_region ?_)
        refine zu (.bool true) (run_lss (k := .i64) (a := i) (b := (wth es.length (ss.getD j ByteArray.empty)).length) ky ky true (decide_eq_true (by omega))) ?_
        refine wl_nil (then_at rfl (wp_seq ?_))
        refine wp_cond_true ky ?_
        refine wp_skip (then_at rfl (wp_seq (wp_block (wp_seq (wl_region ?_)))))
        refine zu (.pointer (some ⟨qw, i, none⟩)) (run_addr_slice (q := qw) (n := (wth es.length (ss.getD j ByteArray.empty)).length) (m := cw) (a := i) Tryz.underlying81 (fun w => Tryz.sizeOf3 w) ky ky (by omega)) ?_
        refine zu (iN .i64 ((wth es.length (ss.getD j ByteArray.empty)).getD i 0)) (run_load1 (fun w => Tryz.isAgg3 w) ky (((Rd3.cell hmw hX.ha (fun y hy => hy)).cell i).trans (hcw i hk))) ?_
        refine zv (iN .i64 ((wth es.length (ss.getD j ByteArray.empty)).getD i 0)) ?_
        refine wl_nil (then_at rfl (wl_region ?_))
        refine zv (.pointer (some ⟨b.p, 0, none⟩)) ?_
        refine zv (iN .i64 ((wth es.length (ss.getD j ByteArray.empty)).getD i 0)) ?_
        refine wl_callx ky enter75 #[.pointer (some ⟨b.p, 0, none⟩), iN .i64 ((wth es.length (ss.getD j ByteArray.empty)).getD i 0)] ky (learn_any hX hoki hyl (by omega)) ?_
        rintro _ w13 ⟨rfl, hL2⟩
        refine ⟨_, rfl, ?_⟩
        refine wl_nil (block_normal (then_at rfl (wl_region ?_)))
        refine zu (iN .i64 (i + 1)) (run_add (k := .i64) (a := i) (b := 1) ky ky (by simp only [top]; omega)) ?_
        refine zv (iN .i64 (i + 1)) ?_
        refine wl_nil ?_
        exact then_I ⟨fun ii => (([(11, iN .i64 ((wth es.length (ss.getD j ByteArray.empty)).getD i 0)), (55, .bool true), (56, .pointer (some ⟨qw, i, none⟩)), (57, iN .i64 ((wth es.length (ss.getD j ByteArray.empty)).getD i 0)), (58, .pointer (some ⟨b.p, 0, none⟩)), (59, iN .i64 ((wth es.length (ss.getD j ByteArray.empty)).getD i 0)), (60, .tuple #[]), (61, iN .i64 (i + 1))] : List (Nat × Value)).find? (·.1 == ii)).elim undef (·.2), by kernel_rfl, (by rw [foldl_take_succ (wth es.length (ss.getD j ByteArray.empty)) i hk]; exact hL2)⟩
      · rintro _ w14 ⟨u11, rfl, hX⟩
        refine wp_seq (wl_region ?_)
        refine zu (.bool false) (run_lss (k := .i64) (a := (wth es.length (ss.getD j ByteArray.empty)).length) (b := (wth es.length (ss.getD j ByteArray.empty)).length) ky ky false (decide_eq_false (by omega))) ?_
        refine wl_nil (then_at rfl (wp_seq ?_))
        refine wp_cond_false ky ?_
        refine wp_exit ?_
        repeat first | refine then_exit ?_ | refine block_exit ?_ | refine block_exit_ne (by decide) ?_
        refine block_normal (then_at rfl (wl_region ?_))
        refine zu (iN .i64 (j + 1)) (run_add (k := .i64) (a := j) (b := 1) ky ky (by simp only [top]; omega)) ?_
        refine zv (iN .i64 (j + 1)) ?_
        refine wl_nil ?_
        exact then_I ⟨fun ii => (([(9, .string (ss.getD j ByteArray.empty)), (11, u11 11), (47, .bool true), (48, .pointer (some ⟨pq, j, none⟩)), (49, .string (ss.getD j ByteArray.empty)), (50, .pointer (some ⟨t.q, 0, none⟩)), (51, .string (ss.getD j ByteArray.empty)), (52, .slice ow (wth es.length (ss.getD j ByteArray.empty)).length cw), (53, iN .i64 ((wth es.length (ss.getD j ByteArray.empty)).length)), (54, iN .i64 ((wth es.length (ss.getD j ByteArray.empty)).length)), (55, .bool false), (56, u11 56), (57, u11 57), (58, u11 58), (59, u11 59), (60, u11 60), (61, u11 61), (62, iN .i64 (j + 1))] : List (Nat × Value)).find? (·.1 == ii)).elim undef (·.2), by kernel_rfl, (by rw [seenK_step es _ ss j hj]; have hq2 := hX; rw [List.take_length] at hq2; exact WH.sub hq2 (List.sublist_append_right L1 _))⟩
    · rintro _ w15 ⟨u8, rfl, hV⟩
      refine wp_seq (wl_region ?_)
      refine zu (.bool false) (run_lss (k := .i64) (a := ss.length) (b := ss.length) ky ky false (decide_eq_false (by omega))) ?_
      refine wl_nil (then_at rfl (wp_seq ?_))
      refine wp_cond_false ky ?_
      refine wp_exit ?_
      repeat first | refine then_exit ?_ | refine block_exit ?_ | refine block_exit_ne (by decide) ?_
      refine then_at (F := ⟨(pt t.q :: .slice o ss.length cs :: un :: un :: .slice none 0 0 :: pt b.p :: u4 6 :: u4 7 :: un :: u8 9 :: un :: u8 11 :: pt t.q :: .bool false :: pt t.q :: pt t.q :: pt t.q :: .slice p es.length c :: iN .i64 es.length :: .slice (some ⟨g 5, 0, none⟩) es.length es.length :: pt t.q :: pt t.q :: pt t.q :: .slice p es.length c :: iN .i64 es.length :: .slice (some ⟨g 11, 0, none⟩) es.length es.length :: .agg #[.slice none 0 0, .slice (some ⟨(unp (g 12)).1, 0, none⟩) es.length es.length, .slice (some ⟨(unp (g 12)).2, 0, none⟩) es.length es.length, .slice none 0 0] :: pt (g 13) :: pt t.q :: pt t.q :: pt t.q :: .slice p es.length c :: iN .i64 es.length :: iN .i64 es.length :: .bool false :: u4 35 :: u4 36 :: u4 37 :: u4 38 :: u4 39 :: u4 40 :: u4 41 :: u4 42 :: u4 43 :: .slice o ss.length cs :: iN .i64 ss.length :: iN .i64 ss.length :: .bool false :: u8 48 :: u8 49 :: u8 50 :: u8 51 :: u8 52 :: u8 53 :: u8 54 :: u8 55 :: u8 56 :: u8 57 :: u8 58 :: u8 59 :: u8 60 :: u8 61 :: u8 62 :: List.replicate 6 un).toArray, []⟩) ky ?_
      refine wp_seq (wl_region ?_)
      refine zv (.pointer (some ⟨b.p, 0, none⟩)) ?_
      refine wl_callx ky enter76 #[.pointer (some ⟨b.p, 0, none⟩)] ky (spread_any hV (seenK_ok (layK_ok hwf hwg es.length (Nat.le_refl _)).1 ss ss.length) (by omega)) ?_
      rintro _ w16 ⟨rfl, hS⟩
      refine ⟨_, rfl, ?_⟩
      refine wl_nil (then_at rfl (wp_seq ?_))
      obtain ⟨rv, nv, avs, Lr, Ln, La, _, _, _, HF⟩ := hS
      refine wl_region ?_
      refine zv (.pointer (some ⟨b.p, 0, none⟩)) ?_
      refine zv (.pointer (some ⟨b.p, 0, none⟩)) ?_
      refine zv (.pointer (some ⟨b.p, 2, none⟩)) ?_
      refine zu (.slice (some ⟨b.kb, 0, none⟩) es.length es.length) (run_load1 (fun w => Tryz.isAgg79 w) ky (((HF.get 0 rfl).cell 2).trans rfl)) ?_
      refine zv (.slice (some ⟨b.kb, 0, none⟩) es.length es.length) ?_
      refine wl_nil (then_at rfl ?_)
      refine wp_ret ?_
      repeat first | refine then_ret ?_ | refine block_ret ?_
      exact bodyPost_ret (v := .slice (some ⟨b.kb, 0, none⟩) es.length es.length) ky rfl ⟨b.kb, rfl, HF.own _ (List.mem_of_getElem? (i := 2) rfl), HF.get 2 rfl, HF.old.old⟩
end Go.Proofs.YtcjjbpbehapjpaaGreat
