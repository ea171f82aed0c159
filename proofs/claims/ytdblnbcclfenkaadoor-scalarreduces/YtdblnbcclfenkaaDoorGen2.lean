/-
  Words as cells; slices of arrays; copies; two blocks filled in one drawn region.
-/
import Derived.Test.YtdblnbcclfenkaaDoorGen
namespace Go.Proofs.YtdblnbcclfenkaaDoor
open Go.RowKit Num

theorem el_sz (n m : Nat) : (el n).size = (el m).size := rfl
theorem el_get (n j : Nat) (hj : j < 4) : (el n)[j]? = some (iN .u64 (n / K ^ j % K)) := by
  unfold el
  rw [cl_get .u64 _ j (by rw [digs_length]; exact hj), digs_get]
  rfl
theorem el_mod (n : Nat) : el (n % K ^ 4) = el n := by
  unfold el
  rw [digs_mod K 4 (n % K ^ 4) n (by decide) (Nat.mod_mod _ _)]
/-- eight words -/
def el8 (n : Nat) : Array Value := cl .u64 (digs K 8 n)
def arr8 (n : Nat) : Value := .agg (el8 n)
theorem el8_size (n : Nat) : (el8 n).size = 8 := rfl
theorem el8_get (n j : Nat) (hj : j < 8) : (el8 n)[j]? = some (iN .u64 (n / K ^ j % K)) := by
  unfold el8
  rw [cl_get .u64 _ j (by rw [digs_length]; exact hj), digs_get]
  rfl
theorem el8_put (n j x n' : Nat) (h : (digs K 8 n).set j x = digs K 8 n') : (el8 n).setIfInBounds j (.int .u64 (x : Int)) = el8 n' := by
  unfold el8
  rw [← h]
  simp [cl, List.map_set]
theorem el_put (n j x n' : Nat) (h : (digs K 4 n).set j x = digs K 4 n') : (el n).setIfInBounds j (.int .u64 (x : Int)) = el n' := by
  unfold el
  rw [← h]
  simp [cl, List.map_set]
theorem info61 : (Tryd.prog.info? 61).map (·.size) = some 8 := by kernel_rfl
theorem info32 : (Tryd.prog.info? 32).map (·.size) = some 1 := by kernel_rfl
theorem run_alloc61 {ρ : Operand → Value} {w : World} {dst : Option Tmp} {ty : TypeId} {pos : String} {aft : Array Edge} {gd : Option (Nat × Bool)} :
    (execOp ρ ⟨dst, .alloc 61, ty, pos, aft, gd⟩).run Tryd.prog w = .ok (.value (.pointer (some ⟨w.heap.size, 0, none⟩))) (w.alloc (.cells (el8 0) 61)) := by
  simp only [execOp]
  go_simp
  rfl
section
variable {ρ : Operand → Value} {x : Operand} {w : World} {dst : Option Tmp} {ty : TypeId} {pos : String} {aft : Array Edge} {gd : Option (Nat × Bool)} {q : Nat}
theorem run_slice34 (hx : ρ x = .pointer (some ⟨q, 0, none⟩)) : (execOp ρ ⟨dst, .slice 34 x none none none, ty, pos, aft, gd⟩).run Tryd.prog w = .ok (.value (.slice (some ⟨q, 0, none⟩) 4 4)) w := by
  simp only [execOp, hx]
  go_simp
theorem run_slice61h {y : Operand} (hx : ρ x = .pointer (some ⟨q, 0, none⟩)) (hy : ρ y = .int .i64 4) : (execOp ρ ⟨dst, .slice 61 x (some y) none none, ty, pos, aft, gd⟩).run Tryd.prog w = .ok (.value (.slice (some ⟨q, 4, none⟩) 4 4)) w := by
  simp only [execOp, hx, Option.map, hy]
  go_simp
theorem run_slice61l {y : Operand} (hx : ρ x = .pointer (some ⟨q, 0, none⟩)) (hy : ρ y = .int .i64 4) : (execOp ρ ⟨dst, .slice 61 x none (some y) none, ty, pos, aft, gd⟩).run Tryd.prog w = .ok (.value (.slice (some ⟨q, 0, none⟩) 4 8)) w := by
  simp only [execOp, hx, Option.map, hy]
  go_simp
/-- four words of eight are copied -/
theorem run_copy4 {y : Operand} {p o n : Nat} {t t' : TypeId} {c c' : Array Value} (hx : ρ x = .slice (some ⟨p, 0, none⟩) 4 4) (hy : ρ y = .slice (some ⟨q, o, none⟩) 4 n) (h : Blk w p t c) (hs : c.size = 4) (h' : Blk w q t' c') (d : Array Value) (hd : d.size = 4)
    (hc : ∀ j, j < 4 → c'[o + j]? = d[j]?) (h1 : d.all (·.oneCell') = true) : (execOp ρ ⟨dst, .call { callee := .builtin .copy, args := #[x, y], argTypes := #[63, 63] }, ty, pos, aft, gd⟩).run Tryd.prog w = .ok (.value (iN .i64 4)) (w.setCells p 0 d.toList) := by
  have e := run_copy_cells (P := Tryd.prog) w 63 63 ty 32 p 0 4 4 ⟨q, o, none⟩ 4 n d.toList Tryd.underlying63 info32 (by simp [hd]) (fun j v hv => by
    have hj : j < 4 := by have := (List.getElem?_eq_some_iff.1 hv).1; simp [hd] at this; exact this
    have hadd : (⟨q, o, none⟩ : Addr).add j = ⟨q, o + j, none⟩ := by unfold Addr.add; split <;> simp_all
    rw [hadd, h'.cell (o + j), hc j hj]
    simpa using hv) (fun j hj => by rw [Nat.zero_add, h.cell j]; simp at hj ⊢; omega) (fun j _ => h.free _) (fun v hv => by
    have := Array.all_eq_true_iff_forall_mem.1 h1 v (by simpa using hv)
    exact this)
  simp only [execOp, iN]
  go_simp
end
section
variable {ops : Array Oper} {Q : Exit → Act → World → Prop} {F : (Nat → Nat) → Act} {i i0 j q : Nat} {dst : Option Tmp} {T ty : TypeId} {pos : String} {aft : Array Edge} {gd : Option (Nat × Bool)}
  {w0 : World} {L : List (Nat × TypeId × Array Value)} {t : TypeId} {c : Array Value}
theorem gp_copy {x y : Operand} {o n m : Nat} {c0 : Array Value} {e : Nat × TypeId × Array Value} (hL : L[j]? = some (q, t, c0)) (hs : c0.size = 4) (hm : L[m]? = some e) (hd : c.size = 4) (hc : ∀ k, k < 4 → e.2.2[o + k]? = c[k]?) (h1 : c.all (·.oneCell') = true)
    (hw : ∀ g, Region.wanted ⟨dst, .call { callee := .builtin .copy, args := #[x, y], argTypes := #[63, 63] }, ty, pos, aft, gd⟩ (yielded ops (F g).tmps) = true) (hp : ∀ g (m : Nat), (F g).put dst (iN .i64 4) = F (up g i0 m))
    (hx : ∀ g, (F g).eval x = .slice (some ⟨q, 0, none⟩) 4 4) (hy : ∀ g, (F g).eval y = .slice (some ⟨e.1, o, none⟩) 4 n) :
    OpGhost Tryd.prog .any ops Q (GP w0 L i0 j q t c) F i0 ⟨dst, .call { callee := .builtin .copy, args := #[x, y], argTypes := #[63, 63] }, ty, pos, aft, gd⟩ :=
  OpGhost.act (v := fun _ _ => iN .i64 4) (n := fun _ _ => 0) (W := fun _ w => w.setCells q 0 c.toList) hw (fun g _ => hp g 0) (fun g d w h hd0 _ => by
    have hG := h
    unfold GP at h
    rw [hd0, if_neg (by decide)] at h
    refine ⟨run_copy4 (hx g) (hy g) (h.get j hL) hs (h.get m hm) c hd hc h1, ?_⟩
    unfold GP
    rw [up_at, if_pos rfl]
    exact h.fill j hL (by rw [hd, hs]))
/-- two blocks are filled, by numbers i0 and i1 -/
def G2 (w0 : World) (L : List (Nat × TypeId × Array Value)) (i0 j0 : Nat) (x0 : Nat × TypeId × Array Value) (i1 j1 : Nat) (x1 : Nat × TypeId × Array Value) (_ : Nat → Nat) (d : Nat → Bool) (w : World) : Prop :=
  HA w0 (if d i1 = true then (if d i0 = true then L.set j0 x0 else L).set j1 x1 else (if d i0 = true then L.set j0 x0 else L)) w
variable {j0 i1 j1 : Nat} {x0 x1 : Nat × TypeId × Array Value}
theorem G2.keep {g : Nat → Nat} {d : Nat → Bool} {w : World} (h : G2 w0 L i0 j0 x0 i1 j1 x1 g d w) (hi : i ≠ i0) (hi1 : i ≠ i1) : G2 w0 L i0 j0 x0 i1 j1 x1 g (up d i true) w := by
  unfold G2
  rw [up_ne _ _ (Ne.symm hi), up_ne _ _ (Ne.symm hi1)]
  exact h
theorem G2.get {g : Nat → Nat} {d : Nat → Bool} {w : World} (h : G2 w0 L i0 j0 x0 i1 j1 x1 g d w) (m : Nat) (hm : j0 ≠ m) (hm1 : j1 ≠ m) {x : Nat × TypeId × Array Value} (hx : L[m]? = some x) : Blk w x.1 x.2.1 x.2.2 := by
  unfold G2 at h
  refine h.get m ?_
  split <;> split <;> simp only [List.getElem?_set_ne hm, List.getElem?_set_ne hm1, hx]
theorem g2_load {x : Operand} {D : TypeDesc} {e : Nat × TypeId × Array Value} (m : Nat) (hm : L[m]? = some e) (h0 : j0 ≠ m) (h1 : j1 ≠ m) (hi : i ≠ i0) (hi1 : i ≠ i1)
    (hw : ∀ g, Region.wanted ⟨dst, .load T x, ty, pos, aft, gd⟩ (yielded ops (F g).tmps) = true) (hp : ∀ g, (F g).put dst (.agg e.2.2) = F g) (hx : ∀ g, (F g).eval x = .pointer (some ⟨e.1, 0, none⟩))
    (hu : Tryd.prog.underlying T = some D) (hd : D.isRow = true) (hz : (Tryd.prog.info? T).map (·.size) = some e.2.2.size) :
    OpGhost Tryd.prog .any ops Q (G2 w0 L i0 j0 x0 i1 j1 x1) F i ⟨dst, .load T x, ty, pos, aft, gd⟩ :=
  OpGhost.take (v := fun _ => .agg e.2.2) hw hp (fun g _ _ h _ => ⟨run_load_blk (hx g) (h.get m h0 h1 hm) hu hd hz, h.keep hi hi1⟩)
theorem g2_fill0 {x y : Operand} {c0 : Array Value} (hL : L[j0]? = some (x0.1, x0.2.1, c0)) (hs : x0.2.2.size = c0.size) (hj : j1 ≠ j0) (hii : i1 ≠ i0) (hw : ∀ g, Region.wanted ⟨dst, .store T x y, ty, pos, aft, gd⟩ (yielded ops (F g).tmps) = true) (hp : ∀ g, (F g).put dst undef = F g)
    (hx : ∀ g, (F g).eval x = .pointer (some ⟨x0.1, 0, none⟩)) (hy : ∀ g, (F g).eval y = .agg x0.2.2) (hz : (Tryd.prog.info? T).map (·.size) = some x0.2.2.size) (h1 : x0.2.2.all (·.oneCell') = true) :
    OpGhost Tryd.prog .any ops Q (G2 w0 L i0 j0 x0 i1 j1 x1) F i0 ⟨dst, .store T x y, ty, pos, aft, gd⟩ :=
  OpGhost.skips (W := fun _ w => w.setCells x0.1 0 x0.2.2.toList) hw hp (fun g d w h hd _ => by
    unfold G2 at h ⊢
    have e0 : (if d i0 = true then L.set j0 x0 else L) = L := if_neg (by rw [hd]; decide)
    rw [e0] at h
    rw [up_at, if_pos rfl, up_ne _ _ hii]
    by_cases h2 : d i1 = true
    · rw [if_pos h2] at h ⊢
      have hL2 : (L.set j1 x1)[j0]? = some (x0.1, x0.2.1, c0) := by rw [List.getElem?_set_ne hj]; exact hL
      refine ⟨run_store_blk (hx g) (hy g) (h.get (x := (x0.1, x0.2.1, c0)) j0 hL2) hs hz h1, ?_⟩
      rw [List.set_comm _ _ (Ne.symm hj)]
      exact h.fill j0 hL2 hs
    · rw [if_neg h2] at h ⊢
      exact ⟨run_store_blk (hx g) (hy g) (h.get (x := (x0.1, x0.2.1, c0)) j0 hL) hs hz h1, h.fill j0 hL hs⟩)
theorem g2_fill1 {x y : Operand} {c0 : Array Value} (hL : L[j1]? = some (x1.1, x1.2.1, c0)) (hs : x1.2.2.size = c0.size) (hj : j0 ≠ j1) (hii : i0 ≠ i1) (hw : ∀ g, Region.wanted ⟨dst, .store T x y, ty, pos, aft, gd⟩ (yielded ops (F g).tmps) = true) (hp : ∀ g, (F g).put dst undef = F g)
    (hx : ∀ g, (F g).eval x = .pointer (some ⟨x1.1, 0, none⟩)) (hy : ∀ g, (F g).eval y = .agg x1.2.2) (hz : (Tryd.prog.info? T).map (·.size) = some x1.2.2.size) (h1 : x1.2.2.all (·.oneCell') = true) :
    OpGhost Tryd.prog .any ops Q (G2 w0 L i0 j0 x0 i1 j1 x1) F i1 ⟨dst, .store T x y, ty, pos, aft, gd⟩ :=
  OpGhost.skips (W := fun _ w => w.setCells x1.1 0 x1.2.2.toList) hw hp (fun g d w h hd _ => by
    unfold G2 at h ⊢
    rw [if_neg (by rw [hd]; decide)] at h
    rw [up_at, if_pos rfl, up_ne _ _ hii]
    have hL2 : (if d i0 = true then L.set j0 x0 else L)[j1]? = some (x1.1, x1.2.1, c0) := by
      split
      · rw [List.getElem?_set_ne hj]; exact hL
      · exact hL
    exact ⟨run_store_blk (hx g) (hy g) (h.get (x := (x1.1, x1.2.1, c0)) j1 hL2) hs hz h1, h.fill j1 hL2 hs⟩)
theorem G2.start {g : Nat → Nat} {d : Nat → Bool} {w : World} (h : HA w0 L w) (hd : d i0 = false) (hd1 : d i1 = false) : G2 w0 L i0 j0 x0 i1 j1 x1 g d w := by
  unfold G2
  rw [hd, hd1]
  exact h
end
set_option linter.unusedSimpArgs false in
theorem res_two {fn : Func} {p r : Tmp} {t t' ty : TypeId} {ts : Array Value} {w : World} {q s : Nat} {c c' : Array Value} {D : TypeDesc} {P : Program} (hf : fn.results = #[.cell p ty, .cell r ty]) (ht : ts.getD p undef = .pointer (some ⟨q, 0, none⟩)) (hv : ts.getD r undef = .pointer (some ⟨s, 0, none⟩)) (h : Blk w q t c) (h' : Blk w s t' c')
    (hu : P.underlying ty = some D) (hd : D.isRow = true) (hi : (P.info? ty).map (·.size) = some c.size) (hi' : (P.info? ty).map (·.size) = some c'.size) :
    (results fn ts).run P w = .ok (.tuple #[.agg c, .agg c']) w := by
  have e := run_loadVar_mid (P := P) w q 0 ty c.toList D h.range hu hd (by simpa using hi)
  have e' := run_loadVar_mid (P := P) w s 0 ty c'.toList D h'.range hu hd (by simpa using hi')
  have ht2 : ts[p]?.getD undef = .pointer (some ⟨q, 0, none⟩) := by simpa using ht
  have hv2 : ts[r]?.getD undef = .pointer (some ⟨s, 0, none⟩) := by simpa using hv
  simp [results, hf, Sem.run_bind, Sem.run_pure, Result.andThen_ok, asAddr, ht2, hv2, e, e']
end Go.Proofs.YtdblnbcclfenkaaDoor
