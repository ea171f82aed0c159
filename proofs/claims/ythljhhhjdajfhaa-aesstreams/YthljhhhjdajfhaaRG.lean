/-
  A row of bytes that grows, in a drawn region.
-/
import Derived.Test.YthljhhhjdajfhaaR7
import Derived.Lib.LazyBuf
namespace Go.Proofs.Ythljhhhjdajfhaa
open Go.RowKit

/-- a drawn region with one change behind all others (number i0), a row that is made and read ahead of it (number i2), and a copy of its answer (number i3) -/
structure GY (I : World → Prop) (J : (Nat → Nat) → World → Prop) (nb : Array Value) (pre : Nat → List Nat) (i2 i0 i3 : Nat) (g : Nat → Nat) (d : Nat → Bool) (w : World) : Prop where
  before : d i0 = false → I w ∧ (d i2 = true → Blk w (g i2) 5 nb)
  after : d i0 = true → J g w
  seen : Cl pre d
  same : d i3 = true → g i3 = g i0
section
variable {ops : Array Oper} {Q : Exit → Act → World → Prop} {F : (Nat → Nat) → Act} {i i0 i2 i3 : Nat} {dst : Option Tmp} {T ty : TypeId} {pos : String} {aft : Array Edge} {gd : Option (Nat × Bool)}
  {I : World → Prop} {J : (Nat → Nat) → World → Prop} {nb : Array Value} {pre : Nat → List Nat}
theorem GY.keep {g : Nat → Nat} {d : Nat → Bool} {w : World} (h : GY I J nb pre i2 i0 i3 g d w) (hi : i ≠ i0 ∧ i ≠ i2 ∧ i ≠ i3) (hm : ∀ m ∈ pre i, d m = true) : GY I J nb pre i2 i0 i3 g (up d i true) w :=
  ⟨by rw [up_ne _ _ (Ne.symm hi.1), up_ne _ _ (Ne.symm hi.2.1)]; exact h.before, by rw [up_ne _ _ (Ne.symm hi.1)]; exact h.after, h.seen.up hm, by rw [up_ne _ _ (Ne.symm hi.2.2)]; exact h.same⟩
theorem gy_plain {o : Oper} {v : (Nat → Nat) → Value} (hi : i ≠ i0 ∧ i ≠ i2 ∧ i ≠ i3) (he : ahead o.after (pre i) = true) (hw : ∀ g, Region.wanted o (yielded ops (F g).tmps) = true) (hp : ∀ g, (F g).put o.dst (v g) = F g)
    (hr : ∀ g w, (execOp (F g).eval o).run Try.prog w = .ok (.value (v g)) w) : OpGhost Try.prog .any ops Q (GY I J nb pre i2 i0 i3) F i o :=
  OpGhost.take (v := v) hw hp (fun g _ w h ha => ⟨hr g w, h.keep hi (ahead_ok he ha)⟩)
theorem GY.early {g : Nat → Nat} {d : Nat → Bool} {w : World} (h : GY I J nb pre i2 i0 i3 g d w) (h0 : ∀ d, Cl pre d → d i0 = true → d i = true) (hi : d i = false) : d i0 = false := by
  cases e : d i0 with
  | false => rfl
  | true => rw [h0 d h.seen e] at hi; cases hi
theorem gy_read {o : Oper} {v : Value} (hi : i ≠ i0 ∧ i ≠ i2 ∧ i ≠ i3) (h0 : ∀ d, Cl pre d → d i0 = true → d i = true) (he : ahead o.after (pre i) = true) (hw : ∀ g, Region.wanted o (yielded ops (F g).tmps) = true) (hp : ∀ g, (F g).put o.dst v = F g)
    (hr : ∀ g w, I w → (execOp (F g).eval o).run Try.prog w = .ok (.value v) w) : OpGhost Try.prog .any ops Q (GY I J nb pre i2 i0 i3) F i o := fun g d w h hdi ha => by
  rw [if_pos (hw g)]
  unfold Oper.wp
  rw [hr g w (h.before (h.early h0 hdi)).1]
  exact ⟨g i, by rw [up_self]; exact hp g, by rw [up_self]; exact h.keep hi (ahead_ok he ha)⟩
theorem gy_new {o : Oper} {v : Value} (hi : i ≠ i0 ∧ i ≠ i2 ∧ i ≠ i3) (h0 : ∀ d, Cl pre d → d i0 = true → d i = true) (hp2 : i2 ∈ pre i) (he : ahead o.after (pre i) = true) (hw : ∀ g, Region.wanted o (yielded ops (F g).tmps) = true) (hp : ∀ g, (F g).put o.dst v = F g)
    (hr : ∀ g w, Blk w (g i2) 5 nb → (execOp (F g).eval o).run Try.prog w = .ok (.value v) w) : OpGhost Try.prog .any ops Q (GY I J nb pre i2 i0 i3) F i o := fun g d w h hdi ha => by
  rw [if_pos (hw g)]
  unfold Oper.wp
  rw [hr g w ((h.before (h.early h0 hdi)).2 (ahead_ok he ha i2 hp2))]
  exact ⟨g i, by rw [up_self]; exact hp g, by rw [up_self]; exact h.keep hi (ahead_ok he ha)⟩
theorem gy_call {f : FuncId} {xs : Array Operand} {ats : Array TypeId} {v : Value} (hI : ∀ w w', I w → Below w.heap.size w w' → I w') (hi : i ≠ i0 ∧ i ≠ i2 ∧ i ≠ i3) (h0 : ∀ d, Cl pre d → d i0 = true → d i = true) (he : ahead aft (pre i) = true)
    (hw : ∀ g, Region.wanted ⟨dst, .call { callee := .value (.func f), args := xs, argTypes := ats }, ty, pos, aft, gd⟩ (yielded ops (F g).tmps) = true) (hp : ∀ g, (F g).put dst v = F g)
    (hr : ∀ args w, (callFunc f args).run Try.prog w = .ok (.enter f args) w) (args : Array Value) (ha : ∀ g, #[] ++ xs.map (F g).eval ++ #[] = args)
    (hc : ∀ w, Calls Try.prog f args w fun e w' => e = .returned v ∧ Below w.heap.size w w') :
    OpGhost Try.prog .any ops Q (GY I J nb pre i2 i0 i3) F i ⟨dst, .call { callee := .value (.func f), args := xs, argTypes := ats }, ty, pos, aft, gd⟩ := fun g d w h hdi haft => by
  rw [if_pos (hw g)]
  unfold Oper.wp
  rw [execOp_call_go, ha g, hr]
  refine (hc w).mono ?_
  rintro e w' ⟨rfl, hb⟩
  have e0 := h.early h0 hdi
  have hbf := h.before e0
  refine ⟨g i, by rw [up_self]; exact hp g, ?_⟩
  rw [up_self]
  refine ⟨fun _ => ⟨hI w w' hbf.1 hb, fun h2 => ?_⟩, fun h1 => ?_, h.seen.up (ahead_ok he haft), fun h3 => ?_⟩
  · rw [up_ne _ _ (Ne.symm hi.2.1)] at h2
    exact (hbf.2 h2).keep hb
  · rw [up_ne _ _ (Ne.symm hi.1), e0] at h1
    cases h1
  · rw [up_ne _ _ (Ne.symm hi.2.2)] at h3
    exact h.same h3
theorem gy_make {o : Oper} {v : Nat → Value} (hI : ∀ w, I w → I (w.alloc (.cells nb 5))) (hn : i2 ≠ i0 ∧ i2 ≠ i3) (h0 : ∀ d, Cl pre d → d i0 = true → d i2 = true) (he : ahead o.after (pre i2) = true) (hw : ∀ g, Region.wanted o (yielded ops (F g).tmps) = true)
    (hp : ∀ g (m : Nat), (F g).put o.dst (v m) = F (up g i2 m)) (hr : ∀ g w, (execOp (F g).eval o).run Try.prog w = .ok (.value (v w.heap.size)) (w.alloc (.cells nb 5))) : OpGhost Try.prog .any ops Q (GY I J nb pre i2 i0 i3) F i2 o :=
  OpGhost.act (v := fun _ w => v w.heap.size) (n := fun _ w => w.heap.size) (W := fun _ w => w.alloc (.cells nb 5)) hw (fun g w => hp g w.heap.size) (fun g d w h hdi ha => by
    have e0 := h.early h0 hdi
    refine ⟨hr g w, fun _ => ⟨hI w (h.before e0).1, fun _ => ?_⟩, fun h1 => ?_, h.seen.up (ahead_ok he ha), fun h3 => ?_⟩
    · rw [up_at]
      exact Blk.new w 5 nb
    · rw [up_ne _ _ (Ne.symm hn.1), e0] at h1
      cases h1
    · rw [up_ne _ _ (Ne.symm hn.2)] at h3
      rw [up_ne _ _ (Ne.symm hn.2), up_ne _ _ (Ne.symm hn.1)]
      exact h.same h3)
theorem gy_skip {o : Oper} {W : (Nat → Nat) → World → World} (h03 : i0 ≠ i3) (h2 : ∀ d, Cl pre d → (∀ m ∈ pre i0, d m = true) → d i2 = true) (he : ahead o.after (pre i0) = true) (hw : ∀ g, Region.wanted o (yielded ops (F g).tmps) = true) (hp : ∀ g, (F g).put o.dst undef = F g)
    (hr : ∀ g w, I w → Blk w (g i2) 5 nb → (execOp (F g).eval o).run Try.prog w = .ok .skip (W g w) ∧ J g (W g w)) : OpGhost Try.prog .any ops Q (GY I J nb pre i2 i0 i3) F i0 o :=
  OpGhost.skips (W := W) hw hp (fun g d w h hdi ha => by
    have hb := h.before hdi
    have hh := hr g w hb.1 (hb.2 (h2 d h.seen (ahead_ok he ha)))
    refine ⟨hh.1, fun h1 => ?_, fun _ => hh.2, h.seen.up (ahead_ok he ha), by rw [up_ne _ _ (Ne.symm h03)]; exact h.same⟩
    rw [up_at] at h1
    cases h1)
theorem gy_act {o : Oper} {v : Nat → Value} (h03 : i0 ≠ i3) (h3 : ∀ d, Cl pre d → d i3 = true → d i0 = true) (h2 : ∀ d, Cl pre d → (∀ m ∈ pre i0, d m = true) → d i2 = true) (he : ahead o.after (pre i0) = true) (hw : ∀ g, Region.wanted o (yielded ops (F g).tmps) = true)
    (hp : ∀ g (n : Nat), (F g).put o.dst (v n) = F (up g i0 n))
    (hr : ∀ g w, I w → Blk w (g i2) 5 nb → ∃ n W, (execOp (F g).eval o).run Try.prog w = .ok (.value (v n)) W ∧ J (up g i0 n) W) : OpGhost Try.prog .any ops Q (GY I J nb pre i2 i0 i3) F i0 o := fun g d w h hdi ha => by
  have hb := h.before hdi
  obtain ⟨n, W, h1, h4⟩ := hr g w hb.1 (hb.2 (h2 d h.seen (ahead_ok he ha)))
  rw [if_pos (hw g)]
  unfold Oper.wp
  rw [h1]
  refine ⟨n, hp g n, fun h5 => ?_, fun _ => h4, h.seen.up (ahead_ok he ha), fun h5 => ?_⟩
  · rw [up_at] at h5
    cases h5
  · rw [up_ne _ _ (Ne.symm h03)] at h5
    rw [h3 d h.seen h5] at hdi
    cases hdi
theorem gy_copy {o : Oper} {v : Nat → Value} (hn : i3 ≠ i0 ∧ i3 ≠ i2) (hJ : ∀ g m w, J g w → J (up g i3 m) w) (he : ahead o.after (pre i3) = true) (hw : ∀ g, Region.wanted o (yielded ops (F g).tmps) = true)
    (hp : ∀ g (n : Nat), (F g).put o.dst (v n) = F (up g i3 n)) (hr : ∀ g w, (execOp (F g).eval o).run Try.prog w = .ok (.value (v (g i0))) w) : OpGhost Try.prog .any ops Q (GY I J nb pre i2 i0 i3) F i3 o :=
  OpGhost.act (v := fun g _ => v (g i0)) (n := fun g _ => g i0) (W := fun _ w => w) hw (fun g _ => hp g (g i0)) (fun g d w h hdi ha => by
    refine ⟨hr g w, fun h1 => ?_, fun h1 => ?_, h.seen.up (ahead_ok he ha), fun _ => ?_⟩
    · rw [up_ne _ _ (Ne.symm hn.1)] at h1
      rw [up_ne _ _ (Ne.symm hn.2), up_ne _ _ (Ne.symm hn.2)]
      exact h.before h1
    · rw [up_ne _ _ (Ne.symm hn.1)] at h1
      exact hJ g _ w (h.after h1)
    · rw [up_at, up_ne _ _ (Ne.symm hn.1)])
theorem GY.start {d : Nat → Bool} {w : World} (h : I w) (hd : d i0 = false) (hd2 : d i2 = false) (hc : Cl pre d) : GY I J nb pre i2 i0 i3 (fun _ => 0) d w :=
  ⟨fun _ => ⟨h, fun h2 => absurd (hd2.symm.trans h2) (by decide)⟩, fun h1 => absurd (hd.symm.trans h1) (by decide), hc, fun _ => rfl⟩
end

/-- blocks that are held, and a row of bytes of one's own -/
structure OW (w0 : World) (L : List (Nat × TypeId × Array Value)) (v : Value) (n : Nat) (l : List UInt8) (w : World) : Prop where
  held : HA w0 L w
  own : w.ownsRow w0.heap.size 5 1 v n (l.map by8)
section
variable {w0 w w' : World} {L : List (Nat × TypeId × Array Value)} {v : Value} {n : Nat} {l : List UInt8}
theorem OW.below (h : OW w0 L v n l w) (hb : Below w.heap.size w w') : OW w0 L v n l w' := by
  refine ⟨h.held.keep _ _ hb, ?_⟩
  obtain ⟨hl, h1 | ⟨g, cap, cur, e1, e2, hg, e4, e5, e6, e7⟩⟩ := h.own
  · exact ⟨hl, .inl h1⟩
  · exact ⟨hl, .inr ⟨g, cap, cur, e1, e2, (hb.block g (Array.getElem?_eq_some_iff.1 hg).1).trans hg, e4, e5, e6, e7⟩⟩
theorem OW.drew (h : OW w0 L v n l w) : OW w0 L v n l w.drew := ⟨h.held.drew, h.own⟩
theorem OW.made (h : OW w0 L v n l w) (o : Obj) : OW w0 L v n l (w.alloc o) := h.below ((Below.refl _ w).alloc (Nat.le_refl _) o)
theorem OW.ne (h : OW w0 L v n l w) {g : Nat} {cur : Array Value} (hg : w.heap[g]? = some (.cells cur 5 (0, 0))) {x : Nat × TypeId × Array Value} (hx : x ∈ L) (ht : x.2.1 ≠ 5) : x.1 ≠ g := by
  intro e
  obtain ⟨f, hf, _⟩ := h.held.blk x hx
  rw [e, hg] at hf
  injection hf with hf
  injection hf with _ h2 _
  exact ht h2.symm
theorem heap_sets {b q : Nat} (hne : q ≠ b) : ∀ (vs : List Value) (o : Nat) (w : World), (w.setCells b o vs).heap[q]? = w.heap[q]?
  | [], _, _ => rfl
  | v :: r, o, w => by rw [World.setCells, heap_sets hne r]; exact Below.heap_setCell w ⟨b, o, none⟩ v q hne
theorem OW.fill (h : OW w0 L v n l w) (i : Nat) {q : Nat} {t : TypeId} {c c' : Array Value} (hi : L[i]? = some (q, t, c)) (hs : c'.size = c.size) (ht : t ≠ 5) : OW w0 (L.set i (q, t, c')) v n l (w.setCells q 0 c'.toList) := by
  refine ⟨h.held.fill i hi hs, ?_⟩
  obtain ⟨hl, h1 | ⟨g, cap, cur, e1, e2, hg, e4, e5, e6, e7⟩⟩ := h.own
  · exact ⟨hl, .inl h1⟩
  · have hne : q ≠ g := h.ne hg (List.mem_of_getElem? hi) ht
    exact ⟨hl, .inr ⟨g, cap, cur, e1, e2, (heap_sets (Ne.symm hne) _ _ _).trans hg, e4, e5, e6, e7⟩⟩
theorem OW.begin (h : HA w0 L w) : OW w0 L (.slice none 0 0) 0 [] w := ⟨h, rfl, .inl ⟨rfl, rfl⟩⟩
/-- one byte more -/
def slN (n m : Nat) : Value := .slice (some ⟨m / 2 ^ 80, 0, none⟩) n (m % 2 ^ 80)
theorem OW.grow (h : OW w0 L v n l w) (hT : ∀ x ∈ L, x.2.1 ≠ 5) {q : Nat} {x : UInt8} (hb : Blk w q 5 (bc [x])) (hn : n ≤ 2000000) (ty : TypeId) :
    ∃ m w', (Builtin.append_ #[31, 31] ty #[v, .slice (some ⟨q, 0, none⟩) 1 1]).run Try.prog w = .ok (slN (n + 1) m) w' ∧ OW w0 L (slN (n + 1) m) (n + 1) (l ++ [x]) w' := by
  obtain ⟨i, hi, hh⟩ := Option.map_eq_some_iff.1 info5
  simp only [Prod.mk.injEq] at hh
  obtain ⟨v', w', hrun, hown', hgr, _⟩ := run_append_own (P := Try.prog) w w0.heap.size 31 ty 5 i (.int .u8 0) 1 1 Try.underlying31 hi hh.1 hh.2.1 hh.2.2 rfl (by decide) v n _ h.own ⟨q, 0, none⟩ 1 1 [by8 x] rfl (fun j u hu => by
    have hj : j = 0 := by
      have := (List.getElem?_eq_some_iff.1 hu).1
      simp at this
      exact this
    subst hj
    have hadd : (⟨q, 0, none⟩ : Addr).add 0 = ⟨q, 0, none⟩ := by unfold Addr.add; split <;> simp_all
    rw [hadd, hb.cell 0]
    exact hu) (fun u hu => by
    obtain rfl : u = by8 x := by simpa using hu
    rfl) (by unfold maxLen; omega) (by omega) h.held.size
  have hH : HA w0 L w' := by
    refine ⟨h.held.old.grown hgr h.held.old.size (fun r hr => (h.own.lt r hr).1), fun y hy => ?_, h.held.own, h.held.nd⟩
    have hB := h.held.blk y hy
    unfold Blk
    rw [hgr.block y.1 hB.lt (fun e => ?_)]
    · exact hB
    · obtain ⟨hl, ⟨h1, _⟩ | ⟨g, cap, cur, e1, e2, hg, e4, e5, e6, e7⟩⟩ := h.own
      · rw [h1] at e
        cases e
      · rw [e1] at e
        exact h.ne hg hy (hT y hy) (Option.some.inj e)
  have hv : ∃ m, v' = slN (n + 1) m := by
    obtain ⟨_, ⟨_, h2⟩ | ⟨g, cap, cur, h1, _, _, _, hcap, _⟩⟩ := hown'
    · omega
    · refine ⟨g * 2 ^ 80 + cap, ?_⟩
      have hc : cap < 2 ^ 80 := by unfold maxLen at hcap; omega
      rw [h1]
      unfold slN
      rw [show (g * 2 ^ 80 + cap) / 2 ^ 80 = g by omega, show (g * 2 ^ 80 + cap) % 2 ^ 80 = cap by omega]
  obtain ⟨m, rfl⟩ := hv
  refine ⟨m, w', hrun, hH, ?_⟩
  rw [List.map_append]
  exact hown'
end
theorem run_text_own {ρ : Operand → Value} {x : Operand} {w : World} {dst : Option Tmp} {ty : TypeId} {pos : String} {aft : Array Edge} {gd : Option (Nat × Bool)} {v : Value} {m base : Nat} {l : List UInt8} (hx : ρ x = v) (h : w.ownsRow base 5 1 v m (l.map by8)) :
    (execOp ρ ⟨dst, .convert 31 9 x, ty, pos, aft, gd⟩).run Try.prog w = .ok (.value (.string ⟨l.toArray⟩)) w := by
  obtain ⟨hl, ⟨h1, h2⟩ | ⟨g, c, cur, e1, e2, hg, e4, e5, e6, e7⟩⟩ := h
  · subst h1 h2
    obtain rfl : l = [] := by
      rw [List.length_map] at hl
      exact List.eq_nil_of_length_eq_zero (by omega)
    simp only [execOp, hx]
    go_simp
    rfl
  · subst e1
    have hll : l.length = m := by
      rw [List.length_map] at hl
      omega
    have e := run_convert_bytes_back (P := Try.prog) w 31 9 5 ⟨g, 0, none⟩ c l Try.underlying31 Try.underlying5 Try.underlying9 (fun j hj => by
      have hadd : (⟨g, 0, none⟩ : Addr).add j = ⟨g, j, none⟩ := by unfold Addr.add; split <;> simp_all
      have hc : cur.toList[j]? = some (by8 (l.getD j 0)) := by
        have h2 : (cur.toList.take (m * 1))[j]? = cur.toList[j]? := List.getElem?_take_of_lt (by omega)
        rw [← h2, e7, List.getElem?_map, List.getD_eq_getElem?_getD, List.getElem?_eq_getElem (by omega)]
        rfl
      rw [hadd]
      rw [Array.getElem?_toList] at hc
      simp only [World.cell?, hg]
      rw [show l[j] = l.getD j 0 by rw [List.getD_eq_getElem?_getD, List.getElem?_eq_getElem (by omega)]; rfl]
      simpa [by8, iN] using hc)
    rw [hll] at e
    simp only [execOp, hx, Sem.run_bind, e, Result.andThen_ok, Sem.run_pure]
theorem run_build4 {ρ : Operand → Value} {x y z u : Operand} {w : World} {dst : Option Tmp} {ty : TypeId} {pos : String} {aft : Array Edge} {gd : Option (Nat × Bool)} {a b c d : UInt8} (h0 : ρ x = by8 a) (h1 : ρ y = by8 b) (h2 : ρ z = by8 c) (h3 : ρ u = by8 d) :
    (execOp ρ ⟨dst, .buildSlice 31 4 #[(0, x), (1, y), (2, z), (3, u)], ty, pos, aft, gd⟩).run Try.prog w = .ok (.value (.slice (some ⟨w.heap.size, 0, none⟩) 4 4)) (w.alloc (.cells (bc [a, b, c, d]) 5)) := by
  simp only [by8, iN] at h0 h1 h2 h3
  simp only [execOp]
  go_simp
  rfl
theorem run_app_own {ρ : Operand → Value} {x y : Operand} {w w0 : World} {dst : Option Tmp} {ty : TypeId} {pos : String} {aft : Array Edge} {gd : Option (Nat × Bool)} {L : List (Nat × TypeId × Array Value)} {v : Value} {n q : Nat} {l : List UInt8} {b : UInt8}
    (h : OW w0 L v n l w) (hT : ∀ x ∈ L, x.2.1 ≠ 5) (hb : Blk w q 5 (bc [b])) (hn : n ≤ 2000000) (hx : ρ x = v) (hy : ρ y = .slice (some ⟨q, 0, none⟩) 1 1) :
    ∃ m w', (execOp ρ ⟨dst, .call { callee := .builtin .append, args := #[x, y], argTypes := #[31, 31] }, ty, pos, aft, gd⟩).run Try.prog w = .ok (.value (slN (n + 1) m)) w' ∧ OW w0 L (slN (n + 1) m) (n + 1) (l ++ [b]) w' := by
  obtain ⟨m, w', h1, h2⟩ := h.grow hT hb hn ty
  have e0 : (execOp ρ ⟨dst, .call { callee := .builtin .append, args := #[x, y], argTypes := #[31, 31] }, ty, pos, aft, gd⟩).run Try.prog w = ((Builtin.append_ #[31, 31] ty #[ρ x, ρ y]).run Try.prog w).andThen (fun a w' => .ok (.value a) w') := by simp [go_sem]
  refine ⟨m, w', ?_, h2⟩
  rw [e0, hx, hy, h1]
  rfl
end Go.Proofs.Ythljhhhjdajfhaa
